"""What the document says of rings, lots, trees, askings and truths that fit, told by going through all truths."""

from random import Random

from tests.values import WORDS, holds, kinds, truths
from whoseword.matters import Matter

WAYS_TO_COUNT = ("sayings", "tellers")


def random_matter(seed, records, many, tellers=("ann", "bob", "eve", "dan")):
    chance = Random(seed)
    sayings = []
    for _ in range(many if records > 1 else 0):
        first, second = sorted(chance.sample(range(records), 2))
        sayings.append((chance.choice(tellers), first, second, chance.choice(WORDS)))
    return Matter(records, sayings)


def random_assumed(seed, records, many):
    """Assumptions that one truth, drawn for them, obeys, so they do not contradict each other."""
    chance = Random(seed)
    truth = [record for record in range(1, records) if chance.random() < 0.5]
    assumed = []
    for _ in range(many if records > 1 else 0):
        first, second = sorted(chance.sample(range(records), 2))
        assumed.append((first, second, "same" if holds(records, truth, (first, second, "same")) else "other"))
    return assumed


def small_cases():
    """Matters and assumptions of all small sizes: (matter, assumed)."""
    found = []
    for seed in range(60):
        chance = Random(seed)
        records = chance.randrange(1, 8)
        many = chance.choice((0, 1, 2, 3, 5, 7, 9, 12))
        tellers = chance.choice((("ann",), ("ann", "bob"), ("ann", "bob", "eve", "dan"), tuple("abcdefghijkl")))
        matter = random_matter(seed, records, many, tellers)
        found.append((matter, random_assumed(seed, records, chance.choice((0, 0, 1, 2, 4)))))
    for seed in range(6):
        found.append((random_matter(seed, 8, 16), random_assumed(seed, 8, seed % 3)))
    # Assumptions that decide every record.
    for seed in range(4):
        found.append((random_matter(seed, 5, 8), [(0, 1, "other"), (1, 2, WORDS[seed % 2]), (2, 4, "other"), (3, 4, "same")]))
    return found


def obeying(matter, assumed):
    records = matter.records()
    return [truth for truth in truths(records) if all(holds(records, truth, pair) for pair in assumed)]


def wrong_in(matter, truth):
    """The numbers of the sayings that are wrong in the truth."""
    kind = kinds(matter.records(), truth)
    return [number for number, (_, first, second, word) in enumerate(matter.sayings())
            if (kind[first] == kind[second]) != (word == "same")]


def many_wrong(matter, truth, by):
    wrong = wrong_in(matter, truth)
    return len(wrong) if by == "sayings" else len({matter.sayings()[number][0] for number in wrong})


def told_least(matter, assumed, by):
    return min(many_wrong(matter, truth, by) for truth in obeying(matter, assumed))


def told_fitting(matter, assumed, most, by):
    return sorted(truth for truth in obeying(matter, assumed) if many_wrong(matter, truth, by) <= most)


def word_of_all(matter, fitting, first, second):
    told = {"same" if holds(matter.records(), truth, (first, second, "same")) else "other" for truth in fitting}
    return "none" if not told else "open" if len(told) == 2 else told.pop()


def is_integer(value, low, high):
    return type(value) is int and low <= value < high


def told_odd_lot(matter, left, value):
    """Whether it is a lot that is odd, if just these truths obey.

    Each class has an even number of ends, and others and sides are together odd, if and only if an odd number of the
    lot's sayings is wrong in each truth that obeys.
    """
    if type(value) is not tuple or not value:
        return False
    if not all(is_integer(number, 0, len(matter)) for number in value):
        return False
    if list(value) != sorted(set(value)):
        return False
    return all(len(set(value) & set(wrong_in(matter, truth))) % 2 for truth in left)


def told_tree(matter, left, most, value, by):
    """Whether it is a tree of cases against most, if just these truths obey."""
    if type(value) is not tuple:
        return False
    if len(value) == 2 and value[0] == "lots" and type(value[1]) is tuple:
        lots = value[1]
        if len(lots) <= most or not all(told_odd_lot(matter, left, lot) for lot in lots):
            return False
        had = [{matter.sayings()[number][0] if by == "tellers" else number for number in lot} for lot in lots]
        return sum(len(lot) for lot in had) == len(set().union(*had))
    if len(value) == 5 and value[0] == "case":
        _, first, second, one, other = value
        if not is_integer(first, 0, matter.records()) or not is_integer(second, 0, matter.records()):
            return False
        same = [truth for truth in left if holds(matter.records(), truth, (first, second, "same"))]
        apart = [truth for truth in left if truth not in same]
        if first >= second or not same or not apart:
            return False
        return told_tree(matter, same, most, one, by) and told_tree(matter, apart, most, other, by)
    return False


def told_askings(matter, left, value):
    """Whether it is a tree of askings, if just these truths fit."""
    if type(value) is not tuple:
        return False
    if len(value) == 2 and value[0] == "one":
        truth = value[1]
        if type(truth) is not tuple or not all(type(record) is int for record in truth):
            return False
        return left == [truth]
    if len(value) == 5 and value[0] == "ask":
        _, first, second, one, other = value
        if not is_integer(first, 0, matter.records()) or not is_integer(second, first + 1, matter.records()):
            return False
        same = [truth for truth in left if holds(matter.records(), truth, (first, second, "same"))]
        apart = [truth for truth in left if truth not in same]
        return bool(same and apart) and told_askings(matter, same, one) and told_askings(matter, apart, other)
    return False


def all_rings(matter):
    """All rings of the matter, by going on with each path from each start."""
    found = set()

    def go_on(start, here, numbers, ends):
        for number, (_, first, second, _) in enumerate(matter.sayings()):
            if here in (first, second) and number not in numbers:
                end = first + second - here
                if end == start and numbers:
                    found.add((start, numbers + (number,)))
                elif end != start and end not in ends:
                    go_on(start, end, numbers + (number,), ends + (end,))

    for start in range(matter.records()):
        go_on(start, start, (), ())
    return found


def is_a_ring(matter, value):
    """Whether a start and numbers of sayings are a ring: a closed walk in which each record has just two sayings."""
    start, numbers = value
    sayings = matter.sayings()
    if len(numbers) < 2 or len(set(numbers)) != len(numbers):
        return False
    here = start
    ends = []
    for number in numbers:
        if here not in sayings[number][1:3]:
            return False
        here = sum(sayings[number][1:3]) - here
        ends.append(here)
    touched = [record for number in numbers for record in sayings[number][1:3]]
    return here == start and all(touched.count(record) == 2 for record in ends)


def changes(value, things):
    """All values that differ from a nested tuple in one part: exchanged, left out, put in, or of another kind."""
    if not isinstance(value, tuple):
        return [thing for thing in things if thing != value or type(thing) is not type(value)]
    found = [list(value), value[::-1], value + value, (value,), ()]
    for at in range(len(value)):
        found.append(value[:at] + value[at + 1:])
        found.append(value[:at] + (value[at],) + value[at:])
        found.extend(value[:at] + (thing,) + value[at:] for thing in things[:3])
        found.extend(value[:at] + (part,) + value[at + 1:] for part in changes(value[at], things))
        for behind in range(at + 1, len(value)):
            found.append(value[:at] + (value[behind],) + value[at + 1:behind] + (value[at],) + value[behind + 1:])
    return found
