"""What two records are in all truths that fit, and classes of sure records (point 12)."""

from whoseword.cases import fit, least, surely_wrong
from whoseword.errors import NoFit
from whoseword.matters import WORDS
from whoseword.truths import contradiction, joined, sides, truth_of, word_in


def pair_word(matter, assumed, first, second, most, *, by="sayings"):
    """Return the word of the two records within most, and what shows whether they can be the same, and other."""
    shown = []
    for word in WORDS:
        pair = (first, second, word)
        if _excluded(matter, assumed, pair):
            shown.append(("no", None))
        else:
            shown.append(fit(matter, assumed + [pair], most, by=by))
    one, other = shown
    return _word(one[0] == "yes", other[0] == "yes"), one, other


def gap(matter, assumed, first, second, *, by="sayings"):
    """Return the least numbers within which the two can be the same, and other; None for what is excluded."""
    found = []
    for word in WORDS:
        pair = (first, second, word)
        found.append(None if _excluded(matter, assumed, pair) else least(matter, assumed + [pair], by=by))
    return tuple(found)


def fitting(matter, assumed, most, *, by="sayings"):
    """Return the list of all truths that fit within most, in ascending order."""
    return sorted(_fitting(matter.sayings(), sides(matter, assumed), most, by))


def classes(matter, assumed, most, *, by="sayings"):
    """Return the list of the classes of sure records: tuples of those like the least one, and those unlike it."""
    truths = fitting(matter, assumed, most, by=by)
    if not truths:
        raise NoFit(most)
    found = []
    placed = {}
    for head in range(matter.records()):
        if head in placed:
            continue
        words = [_word_in_all(truths, head, record) for record in range(matter.records())]
        ones = tuple([record for record, word in enumerate(words) if word == "same"])
        others = tuple([record for record, word in enumerate(words) if word == "other"])
        for record in ones + others:
            placed[record] = True
        found.append((ones, others))
    return found


def _excluded(matter, assumed, pair):
    return contradiction(matter, assumed + [pair]) is not None


def _word(same, other):
    """Return the word of two records that can, or cannot, be the same, and other."""
    if same and other:
        return "open"
    if same:
        return "same"
    return "other" if other else "none"


def _word_in_all(truths, first, second):
    """Return the word of two records in a list of truths, which may be one record."""
    words = [word_in(truth, first, second) for truth in truths]
    return _word("same" in words, "other" in words)


def _fitting(sayings, placed, most, by):
    """Return the list of all truths, in any order, that fit and obey what gave these least records and sides."""
    if len(surely_wrong(sayings, placed, by)) > most:
        return []
    apart = [record for record, (head, _) in enumerate(placed) if head != 0]
    if not apart:
        return [truth_of(placed)]
    found = []
    for word in WORDS:
        found = found + _fitting(sayings, joined(placed, 0, apart[0], word), most, by)
    return found
