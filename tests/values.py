"""Values that the tests share."""

from itertools import combinations, product

WORDS = ("same", "other")


def nested(depth, seed=None):
    """A value of lists, tuples and dicts that are nested so deep."""
    value = seed
    for level in range(depth):
        value = ([value], (value,), {"a": value})[level % 3]
    return value


def many_values():
    """Values of all the kinds that a parameter for any value may get."""
    return [
        None, True, False, 0, 1, -1, 24, 25, 10 ** 40, -10 ** 5000, "", "same", "other", "a", "1", "é",
        (), (0,), (1, 2), (None, (1, "x")), [], [1], [[1], (2, [])], {}, {"a": [1, {}]}, {1: 2, None: True},
        ("ann", 0, 1, "same"), ["ann", 0, 1, "same"], nested(50), nested(49), nested(48, 1),
    ]


def pairs(records):
    return list(combinations(range(records), 2))


def truths(records):
    """All truths of so many records."""
    return [lot for many in range(records) for lot in combinations(range(1, records), many)]


def kinds(records, truth):
    """The kind of each record, told independently of the package."""
    return [1 if record in truth else 0 for record in range(records)]


def holds(records, truth, assumption):
    """Whether the two records of an assumption are in the truth what its word says."""
    first, second, word = assumption
    kind = kinds(records, truth)
    return word == ("other" if kind[first] ^ kind[second] else "same")


def assumption_lists(records, length):
    """All lists of so many assumptions of so many records."""
    each = [(first, second, word) for first, second in pairs(records) for word in WORDS]
    return [list(row) for row in product(each, repeat=length)]
