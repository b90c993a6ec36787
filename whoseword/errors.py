"""The errors of the package, also those that only later modules raise."""


class WordError(ValueError):
    """The base class of all errors of the package."""


class BadMatter(WordError):
    """What was handed in is no matter: place is the number of what is no saying, or None."""

    def __init__(self, place):
        self.place = place


class Unlike(WordError):
    """Two matters cannot be compared: place is the number of the first saying that differs, or None."""

    def __init__(self, place):
        self.place = place


class NotBalanced(WordError):
    """In each truth some saying is wrong: ring is an odd ring."""

    def __init__(self, ring):
        self.ring = ring


class NoFit(WordError):
    """No truth fits within the number most."""

    def __init__(self, most):
        self.most = most


class BadSaying(WordError):
    """What was handed in as saying is none."""

    def __init__(self, saying):
        self.saying = saying


class NoSaying(WordError):
    """No saying that is there has this number."""

    def __init__(self, number):
        self.number = number


class Contradicts(WordError):
    """The settled pairs contradict this pair."""

    def __init__(self, pair):
        self.pair = pair


class TooMuch(WordError):
    """There are as many sayings as the limit allows."""

    def __init__(self, limit):
        self.limit = limit


class NothingDone(WordError):
    """There is no deed that could be undone."""

    # Without this, the base class would take any arguments.
    def __init__(self):
        pass
