"""Paths and rings of sayings, and whether some truth has no wrong saying (point 7)."""

from whoseword.matters import is_number, is_record
from whoseword.truths import in_one_class, joined, sides, truth_of, word_of_sides


def balance(matter):
    """Return ("yes", a truth in which no saying is wrong), or ("no", an odd ring)."""
    sayings = matter.sayings()
    placed = sides(matter, [])
    # A saying is kept only if it joins two classes, so between two records there is at most one path of these.
    kept = []
    for number, (_, first, second, word) in enumerate(sayings):
        if not in_one_class(placed, first, second):
            placed = joined(placed, first, second, word)
            kept.append(number)
        elif word_of_sides(placed, first, second) != word:
            return "no", (second, (number,) + _way(sayings, kept, first, second))
    return "yes", truth_of(placed)


def is_ring(matter, value):
    """Tell whether the value, which may be any value, is a ring of the matter."""
    if not isinstance(value, tuple) or len(value) != 2:
        return False
    start, numbers = value
    if not is_record(matter.records(), start) or not isinstance(numbers, tuple) or len(numbers) < 2:
        return False
    ends = _ends(matter.sayings(), start, numbers)
    if ends is None or ends[-1] != start:
        return False
    return len(set(ends)) == len(ends)


def is_odd(matter, ring):
    """Tell whether the number of the ring's sayings with the word "other" is odd."""
    sayings = matter.sayings()
    return len([number for number in ring[1] if sayings[number][3] == "other"]) % 2 == 1


def _way(sayings, kept, first, second):
    """Return the numbers of a path from the first record to the second one, which the kept sayings join."""
    ways = {first: ()}
    while second not in ways:
        for number in kept:
            one, other = sayings[number][1:3]
            if one in ways and other not in ways:
                ways[other] = ways[one] + (number,)
            elif other in ways and one not in ways:
                ways[one] = ways[other] + (number,)
    return ways[second]


def _ends(sayings, start, numbers):
    """Return the list of the records where the sayings of a path end, None if the tuple is not one of a path."""
    if not all([is_number(len(sayings), number) for number in numbers]):
        return None
    if len(set(numbers)) != len(numbers):
        return None
    here = start
    ends = []
    for number in numbers:
        first, second = sayings[number][1:3]
        if here != first and here != second:
            return None
        here = second if here == first else first
        ends.append(here)
    return ends
