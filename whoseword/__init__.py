"""Whoseword: what is sure when some sayings are wrong."""
