"""Ways from one record to another one that share no saying, and what parts the two (point 13)."""

from whoseword.errors import NotBalanced
from whoseword.rings import balance


def ways(matter, first, second):
    """Return a list of ways from the first record to the second one, and a side with as many sayings that leave it."""
    _check_balanced(matter)
    heads, reached = _parted(_steps(matter), first, second)
    side = tuple(sorted(reached))
    leaving = _leaving(matter, heads)
    return [_way(leaving, first, second) for _ in _crossing(matter, side)], side


def numbers(matter):
    """Return the list of tuples (first, second, number of ways) for all pairs of records."""
    _check_balanced(matter)
    steps = _steps(matter)
    found = []
    for first in range(matter.records()):
        for second in range(first + 1, matter.records()):
            _, reached = _parted(steps, first, second)
            found.append((first, second, len(_crossing(matter, reached))))
    return found


def _check_balanced(matter):
    told, shown = balance(matter)
    if told == "no":
        raise NotBalanced(shown)


def _steps(matter):
    """Return for each record the list of its sayings: tuples (number, the other record)."""
    found = [[] for _ in range(matter.records())]
    for number, saying in enumerate(matter.sayings()):
        first, second = saying[1:3]
        found[first].append((number, second))
        found[second].append((number, first))
    return found


def _crossing(matter, side):
    """Return the list of the numbers of sayings with one record in the side and one outside."""
    return [number for number, saying in enumerate(matter.sayings()) if (saying[1] in side) != (saying[2] in side)]


def _parted(steps, first, second):
    """Return the sayings of as many ways as there can be, and the records that one way more could still reach.

    The sayings are a dict of their numbers, each with the record to which it leads; the records are a dict, too.
    """
    heads = {}
    reached = _reached(steps, heads, first)
    while second in reached:
        _lead(heads, reached, second)
        reached = _reached(steps, heads, first)
    return heads, reached


def _reached(steps, heads, first):
    """Return a dict of the records that one way more could reach, each with the step to it: (number, record before)."""
    found = {first: None}
    waiting = [first]
    at = 0
    while at < len(waiting):
        here = waiting[at]
        at += 1
        for number, there in steps[here]:
            # A saying that leads here is free the other way: what came along it goes on from here instead.
            if there not in found and heads.get(number, here) == here:
                found[there] = (number, here)
                waiting.append(there)
    return found


def _lead(heads, reached, second):
    """Lead one way more to the second record, by the steps that reached it."""
    here = second
    while reached[here] is not None:
        number, before = reached[here]
        if number in heads:
            del heads[number]
        else:
            heads[number] = here
        here = before


def _leaving(matter, heads):
    """Return for each record the list of the used sayings that lead away from it: tuples (number, where to)."""
    found = [[] for _ in range(matter.records())]
    for number, saying in enumerate(matter.sayings()):
        if number in heads:
            first, second = saying[1:3]
            found[first if heads[number] == second else second].append((number, heads[number]))
    return found


def _way(leaving, first, second):
    """Take the steps of one way out of the leaving ones, and return the way without the rings that they close."""
    way = []
    ends = [first]
    while ends[-1] != second:
        number, there = leaving[ends[-1]].pop()
        if there in ends:
            at = ends.index(there)
            way = way[:at]
            ends = ends[:at + 1]
        else:
            way.append(number)
            ends.append(there)
    return tuple(way)
