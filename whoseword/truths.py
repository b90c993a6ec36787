"""Truths, what is wrong in them, and assumptions (points 5 and 6)."""

from whoseword.matters import is_ascending


def is_truth(matter, value):
    """Tell whether the value, which may be any value, is a truth for the records of the matter."""
    # A truth names what is not of the kind of record 0, so never record 0 itself.
    return is_ascending(1, matter.records(), value)


def word_in(truth, first, second):
    """Return "same" or "other": what the two records are in the truth."""
    return "same" if (first in truth) == (second in truth) else "other"


def wrong_sayings(matter, truth):
    """Return the ascending tuple of the numbers of the sayings that are wrong in the truth."""
    return tuple([
        number
        for number, (_, first, second, word) in enumerate(matter.sayings())
        if word_in(truth, first, second) != word
    ])


def wrong_tellers(matter, truth):
    """Return the ascending tuple of the tellers of whom at least one saying is wrong in the truth."""
    sayings = matter.sayings()
    return tuple(sorted({sayings[number][0] for number in wrong_sayings(matter, truth)}))


def obeys(truth, assumed):
    """Tell whether each assumed pair is in the truth what its word says."""
    return all([word_in(truth, first, second) == word for first, second, word in assumed])


def contradiction(matter, assumed):
    """Return the number of the first assumption that those before it contradict, None if there is none."""
    placed = _each_alone(matter)
    for number, (first, second, word) in enumerate(assumed):
        if in_one_class(placed, first, second) and word_of_sides(placed, first, second) != word:
            return number
        placed = joined(placed, first, second, word)
    return None


def sides(matter, assumed):
    """Return the list of the tuples (least record of its class, side) of all records."""
    placed = _each_alone(matter)
    for first, second, word in assumed:
        placed = joined(placed, first, second, word)
    return placed


def _each_alone(matter):
    return [(record, 0) for record in range(matter.records())]


def in_one_class(placed, first, second):
    """Tell whether the least records and sides decide what the two records are."""
    return placed[first][0] == placed[second][0]


def word_of_sides(placed, first, second):
    """Return what the least records and sides tell of two records of one class."""
    return "same" if placed[first][1] == placed[second][1] else "other"


def joined(placed, first, second, word):
    """Return the least records and sides once the pair is assumed, too; it contradicts nothing before it."""
    low, high = sorted([placed[first][0], placed[second][0]])
    # The least record of the joined class keeps its side 0, so only the other class may turn.
    # (Two records of one class have this word already, so nothing turns.)
    turn = 0 if word_of_sides(placed, first, second) == word else 1
    return [(low, side ^ turn) if least == high else (least, side) for least, side in placed]


def truth_of(placed):
    """Return a truth that obeys whatever gave these least records and sides."""
    # Record 0 is the least of its class, so its side is 0.
    return tuple([record for record, (_, side) in enumerate(placed) if side == 1])
