"""Matters that are turned into each other by a lot of records (point 8)."""

from whoseword.errors import Unlike
from whoseword.matters import Matter
from whoseword.rings import balance


def turned(matter, other):
    """Return ("yes", a lot that turns the one into the other), or ("no", a ring that is odd in just one of them)."""
    _check_alike(matter, other)
    # With "other" for just the differing words, a ring is odd if it is odd in just one of the two,
    # and a truth without a wrong saying is a lot: it parts the two records of just these sayings.
    changed = [
        (teller, first, second, "same" if word == told[3] else "other")
        for (teller, first, second, word), told in zip(matter.sayings(), other.sayings())
    ]
    return balance(Matter(matter.records(), changed))


def _check_alike(matter, other):
    """Raise Unlike if the two have different numbers of records, or sayings about different ones."""
    if matter.records() != other.records():
        raise Unlike(None)
    for place, (one, told) in enumerate(zip(matter.sayings(), other.sayings())):
        if one[1:3] != told[1:3]:
            raise Unlike(place)
    if len(matter) != len(other):
        raise Unlike(min(len(matter), len(other)))
