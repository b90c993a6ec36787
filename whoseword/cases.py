"""Odd lots, trees of cases, and the truths that they exclude (points 9 to 11)."""

from whoseword.matters import WORDS, is_ascending, is_record
from whoseword.truths import in_one_class, joined, sides, truth_of, word_of_sides


def is_odd_lot(matter, assumed, value):
    """Tell whether the value, which may be any value, is a lot of sayings that is odd under the assumptions."""
    return _is_odd_lot(matter.sayings(), sides(matter, assumed), value)


def fit(matter, assumed, most, *, by="sayings"):
    """Return ("yes", a truth that fits within most), or ("no", a tree of cases against most)."""
    return _fit(matter.sayings(), sides(matter, assumed), most, by)


def is_tree(matter, assumed, most, value, *, by="sayings"):
    """Tell whether the value, which may be any value, is a tree of cases against most."""
    return _is_tree(matter.sayings(), sides(matter, assumed), most, value, by)


def least(matter, assumed, *, by="sayings"):
    """Return the least number within which a truth fits."""
    # No truth has more wrong ones than there are sayings, whichever are counted.
    return _least(matter.sayings(), sides(matter, assumed), len(matter), by)


def surely_wrong(sayings, placed, by):
    """Return the list of the numbers of sayings that are wrong in each truth with these least records and sides.

    If tellers are counted, it has only the first such saying of each teller.
    """
    found = []
    tellers = {}
    for number, (teller, first, second, word) in enumerate(sayings):
        if not in_one_class(placed, first, second) or word_of_sides(placed, first, second) == word:
            continue
        if by == "sayings" or teller not in tellers:
            found.append(number)
            tellers[teller] = True
    return found


def _undecided(sayings, placed):
    """Return the two records of the first saying that may be right or wrong, None if there is none."""
    for saying in sayings:
        first, second = saying[1:3]
        if not in_one_class(placed, first, second):
            return first, second
    return None


def _fit(sayings, placed, most, by):
    wrong = surely_wrong(sayings, placed, by)
    if len(wrong) > most:
        # One more than the number is enough, and each of them is an odd lot of its own.
        return "no", ("lots", tuple([(number,) for number in wrong[:most + 1]]))
    pair = _undecided(sayings, placed)
    if pair is None:
        return "yes", truth_of(placed)
    first, second = pair
    trees = []
    for word in WORDS:
        told, shown = _fit(sayings, joined(placed, first, second, word), most, by)
        if told == "yes":
            return told, shown
        trees.append(shown)
    return "no", ("case", first, second, trees[0], trees[1])


def _least(sayings, placed, bound, by):
    """Return the least number of wrong ones in a truth with these least records and sides, at most the bound."""
    many = len(surely_wrong(sayings, placed, by))
    if many >= bound:
        return bound
    pair = _undecided(sayings, placed)
    if pair is None:
        return many
    first, second = pair
    found = bound
    for word in WORDS:
        found = _least(sayings, joined(placed, first, second, word), found, by)
    return found


def _is_odd_lot(sayings, placed, value):
    if not is_ascending(0, len(sayings), value) or len(value) == 0:
        return False
    ends = [placed[record] for number in value for record in sayings[number][1:3]]
    heads = [head for head, _ in ends]
    if any([heads.count(head) % 2 == 1 for head in heads]):
        return False
    others = len([number for number in value if sayings[number][3] == "other"])
    return (others + sum([side for _, side in ends])) % 2 == 1


def _is_tree(sayings, placed, most, value, by):
    if not isinstance(value, tuple):
        return False
    if len(value) == 2 and value[0] == "lots":
        return _are_lots(sayings, placed, most, value[1], by)
    if len(value) == 5 and value[0] == "case":
        return _is_case(sayings, placed, most, value, by)
    return False


def _are_lots(sayings, placed, most, value, by):
    """Tell whether the value, which may be any value, is a tuple of more than most odd lots with nothing in common."""
    if not isinstance(value, tuple) or len(value) <= most:
        return False
    if not all([_is_odd_lot(sayings, placed, lot) for lot in value]):
        return False
    counted = []
    for lot in value:
        counted = counted + _counted(sayings, lot, by)
    return len(set(counted)) == len(counted)


def _counted(sayings, lot, by):
    """Return the list, each once, of what no other lot beside this one may have: sayings, or tellers."""
    if by == "sayings":
        return list(lot)
    return sorted({sayings[number][0] for number in lot})


def _is_case(sayings, placed, most, value, by):
    """Tell whether a tuple of five things, which begins with "case", is a tree of cases."""
    _, first, second, one, other = value
    if not is_record(len(placed), first) or not is_record(len(placed), second):
        return False
    if first >= second or in_one_class(placed, first, second):
        return False
    if not _is_tree(sayings, joined(placed, first, second, "same"), most, one, by):
        return False
    return _is_tree(sayings, joined(placed, first, second, "other"), most, other, by)
