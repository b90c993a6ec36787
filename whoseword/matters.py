"""Matters: records, and what tellers say of them (point 4)."""

from whoseword.errors import BadMatter

MOST_RECORDS = 24
MOST_SAYINGS = 40
MOST_LETTERS = 8
WORDS = ("same", "other")


def is_an_integer(value):
    """Tell whether the value, which may be any value, is an integer (point 3)."""
    return isinstance(value, int) and not isinstance(value, bool)


def is_number(many, value):
    """Tell whether the value, which may be any value, is the number of one of so many things."""
    return is_an_integer(value) and 0 <= value < many


def is_ascending(low, high, value):
    """Tell whether the value, which may be any value, is an ascending tuple of integers from low to below high."""
    if not isinstance(value, tuple):
        return False
    least = low
    for number in value:
        if not is_number(high, number) or number < least:
            return False
        least = number + 1
    return True


def is_record(records, value):
    """Tell whether the value, which may be any value, is one of so many records."""
    return is_number(records, value)


def is_teller(value):
    """Tell whether the value, which may be any value, is the name of a teller."""
    if not isinstance(value, str) or not 1 <= len(value) <= MOST_LETTERS:
        return False
    return all(["a" <= sign <= "z" for sign in value])


def is_word(value):
    """Tell whether the value, which may be any value, is "same" or "other"."""
    return isinstance(value, str) and value in WORDS


def is_saying(records, value):
    """Tell whether the value, which may be any value, is a saying of so many records."""
    if not isinstance(value, tuple) or len(value) != 4:
        return False
    teller, first, second, word = value
    if not is_record(records, first) or not is_record(records, second):
        return False
    return first < second and is_teller(teller) and is_word(word)


class Matter:
    """A number of records, and a list of sayings of them."""

    def __init__(self, records, sayings):
        if not is_an_integer(records) or not 1 <= records <= MOST_RECORDS:
            raise BadMatter(None)
        if not isinstance(sayings, list) or len(sayings) > MOST_SAYINGS:
            raise BadMatter(None)
        for place, thing in enumerate(sayings):
            if not is_saying(records, thing):
                raise BadMatter(place)
        self._size = records
        self._sayings = list(sayings)

    def __len__(self):
        return len(self._sayings)

    def __eq__(self, other):
        return isinstance(other, Matter) and self._size == other._size and self._sayings == other._sayings

    def records(self):
        """Return the number of records."""
        return self._size

    def sayings(self):
        """Return a new list of the sayings."""
        return list(self._sayings)

    def tellers(self):
        """Return the ascending tuple of the tellers, each of them once."""
        return tuple(sorted({saying[0] for saying in self._sayings}))
