"""Which pairs to have settled until all is known (point 15)."""

from whoseword.errors import NoFit
from whoseword.matters import is_record
from whoseword.pairs import fitting
from whoseword.truths import is_truth, word_in


def askings(matter, assumed, most, *, by="sayings"):
    """Return a tree of askings with fewer askings on each way into it than there are classes of sure records."""
    truths = fitting(matter, assumed, most, by=by)
    if not truths:
        raise NoFit(most)
    return _askings(matter.records(), truths)


def is_askings(matter, assumed, most, value, *, by="sayings"):
    """Tell whether the value, which may be any value, is a tree of askings."""
    return _is_askings(matter, fitting(matter, assumed, most, by=by), value)


# Settling a pair leaves just those of the truths that fit which have its word,
# so that both functions below go on with a part of the list instead of a longer list of assumptions.


def _with_word(truths, first, second, word):
    return [truth for truth in truths if word_in(truth, first, second) == word]


def _askings(records, truths):
    if len(truths) == 1:
        return "one", truths[0]
    # An open pair joins two classes of sure records, whatever its word, so there are never too many askings.
    second = _open_with_0(records, truths)
    one = _askings(records, _with_word(truths, 0, second, "same"))
    other = _askings(records, _with_word(truths, 0, second, "other"))
    return "ask", 0, second, one, other


def _open_with_0(records, truths):
    """Return the least record that is in some, but not in all of several different truths."""
    many = [len(_with_word(truths, 0, record, "other")) for record in range(records)]
    return [record for record in range(records) if 0 < many[record] < len(truths)][0]


def _is_askings(matter, truths, value):
    if not isinstance(value, tuple):
        return False
    if len(value) == 2 and value[0] == "one":
        # True equals 1, so a value can equal a truth and be none.
        return is_truth(matter, value[1]) and truths == [value[1]]
    if len(value) == 5 and value[0] == "ask":
        return _is_asking(matter, truths, value)
    return False


def _is_asking(matter, truths, value):
    """Tell whether a tuple of five things, which begins with "ask", is a tree of askings."""
    _, first, second, one, other = value
    if not is_record(matter.records(), first) or not is_record(matter.records(), second) or first >= second:
        return False
    same = _with_word(truths, first, second, "same")
    apart = _with_word(truths, first, second, "other")
    if not same or not apart:
        return False
    return _is_askings(matter, same, one) and _is_askings(matter, apart, other)
