"""Ways that share no saying, and what parts two records: points 2, 3 and 13, and the interface, stage 7."""

import unittest
from inspect import signature
from itertools import combinations
from random import Random

from tests.reference import is_a_ring, told_least
from tests.values import WORDS, holds, pairs
from whoseword import ways as module
from whoseword.errors import NotBalanced, WordError
from whoseword.matters import Matter
from whoseword.rings import balance, is_odd, is_ring
from whoseword.ways import numbers, ways

EXAMPLE = Matter(4, [("ann", 0, 1, "same"), ("bob", 0, 1, "same"), ("ann", 1, 2, "other"), ("eve", 0, 2, "other")])
# The shortest way from 0 to 5, by 1 and 4, shares a saying with each other one: both ways are longer.
LED_ELSEWHERE = [(0, 1), (1, 4), (4, 5), (1, 2), (2, 3), (3, 5), (0, 6), (6, 7), (4, 7)]
# The same twice in a row: to find the last way, two of those found before are led elsewhere.
LED_TWICE = LED_ELSEWHERE + [(5, 8), (8, 11), (11, 12), (8, 9), (9, 10), (10, 12), (5, 13), (13, 14), (11, 14)]
ODD = [("ann", 0, 1, "same"), ("bob", 1, 2, "other"), ("ann", 0, 2, "same")]


def balanced(records, edges, seed=0):
    """A matter with these pairs in which no saying is wrong in a truth that is drawn for it."""
    chance = Random(seed)
    truth = [record for record in range(1, records) if chance.random() < 0.5]
    sayings = []
    for first, second in edges:
        word = "same" if holds(records, truth, (min(first, second), max(first, second), "same")) else "other"
        sayings.append((chance.choice(("ann", "bob", "eve")), min(first, second), max(first, second), word))
    return Matter(records, sayings)


def drawn(seed, records, many):
    chance = Random(seed)
    return balanced(records, [chance.sample(range(records), 2) for _ in range(many if records > 1 else 0)], seed)


def shapes():
    """Matters of all sizes without an odd ring."""
    row = [(at, at + 1) for at in range(23)]
    grid = [(at, at + 1) for at in range(20) if at % 5 < 4] + [(at, at + 5) for at in range(15)]
    found = [
        Matter(1, []), Matter(2, []), Matter(24, []), EXAMPLE,
        balanced(2, [(0, 1)]), balanced(2, [(0, 1)] * 40, 1), balanced(3, [(0, 1)] * 20 + [(1, 2)] * 20, 2),
        balanced(3, [(0, 1)] * 13 + [(1, 2)] * 13 + [(0, 2)] * 14, 3),
        balanced(24, row, 4), balanced(24, row + [(0, 23)], 5), balanced(24, row + row[:17], 6),
        balanced(24, row[::-1] + [(0, 23)] + [(at, at + 12) for at in range(12)], 7),
        balanced(9, pairs(9), 8), balanced(10, [(0, at) for at in range(1, 10)] * 4, 9),
        balanced(14, [(one, other) for one in range(4) for other in range(4, 14)], 10),
        balanced(20, grid, 11), balanced(12, pairs(5) + [(one + 6, other + 6) for one, other in pairs(5)], 12),
        balanced(12, pairs(5) + [(one + 6, other + 6) for one, other in pairs(5)] + [(4, 6), (0, 11), (3, 8)], 13),
        balanced(8, LED_ELSEWHERE, 14), balanced(15, LED_TWICE, 15), balanced(15, LED_TWICE[::-1], 16),
        balanced(15, LED_TWICE * 2, 17),
    ]
    for seed in range(40):
        chance = Random(seed)
        records = chance.randrange(2, 25)
        found.append(drawn(seed, records, chance.choice((3, 10, 20, 30, 40))))
    for seed in range(10):
        found.append(drawn(seed, 6 + seed, 40))
        found.append(drawn(seed, 24, 40))
    return found


def sampled(matter, seed, many):
    found = pairs(matter.records())
    return Random(seed).sample(found, min(many, len(found)))


def least_parting(matter, first, second):
    """The least number of sayings with one record in a lot and one outside, by going through all lots."""
    others = [record for record in range(matter.records()) if record not in (first, second)]
    lots = [(first,) + more for many in range(len(others) + 1) for more in combinations(others, many)]
    return min(sum((saying[1] in lot) != (saying[2] in lot) for saying in matter.sayings()) for lot in lots)


class Ways(unittest.TestCase):
    def assert_way(self, matter, first, second, way):
        self.assertIs(type(way), tuple)
        here = first
        ends = [first]
        for number in way:
            self.assertIs(type(number), int)
            self.assertIn(number, range(len(matter)))
            records = matter.sayings()[number][1:3]
            self.assertIn(here, records)
            here = sum(records) - here
            ends.append(here)
        self.assertEqual(here, second)
        self.assertEqual(len(set(ends)), len(ends))

    def assert_ways(self, matter, first, second):
        """What ways returns meets each condition; returns the number of ways."""
        result = ways(matter, first, second)
        self.assertEqual([type(result), len(result)], [tuple, 2])
        found, side = result
        self.assertEqual([type(found), type(side)], [list, tuple])
        for way in found:
            self.assert_way(matter, first, second, way)
        used = [number for way in found for number in way]
        self.assertEqual(len(set(used)), len(used))
        self.assertEqual(list(side), sorted(set(side)))
        self.assertTrue(all(type(record) is int and 0 <= record < matter.records() for record in side))
        self.assertEqual([first in side, second in side], [True, False])
        parting = [saying for saying in matter.sayings() if (saying[1] in side) != (saying[2] in side)]
        self.assertEqual(len(found), len(parting))
        return len(found)

    def test_the_example(self):
        self.assertEqual(ways(EXAMPLE, 2, 3), ([], (0, 1, 2)))
        self.assertEqual([self.assert_ways(EXAMPLE, *pair) for pair in pairs(4)], [3, 2, 0, 2, 0, 0])

    def test_many_shapes(self):
        for seed, matter in enumerate(shapes()):
            for first, second in sampled(matter, seed, 25):
                self.assert_ways(matter, first, second)

    def test_against_all_lots(self):
        for seed in range(60):
            matter = drawn(seed, 2 + seed % 6, seed % 17)
            for first, second in pairs(matter.records()):
                self.assertEqual(self.assert_ways(matter, first, second), least_parting(matter, first, second))

    def test_a_way_that_was_found_first_is_led_elsewhere(self):
        for seed in range(40):
            edges = list(LED_ELSEWHERE)
            Random(seed).shuffle(edges)
            matter = balanced(8, edges, seed)
            self.assertEqual([self.assert_ways(matter, 0, 5), numbers(matter)[4]], [2, (0, 5, 2)])
            names = Random(seed).sample(range(15), 15)
            edges = [(names[one], names[other]) for one, other in LED_TWICE]
            Random(seed).shuffle(edges)
            for first, second in ((0, 5), (0, 12), (5, 12)):
                pair = sorted((names[first], names[second]))
                self.assertEqual(self.assert_ways(balanced(15, edges, seed), *pair), 2)

    def test_a_way_closes_no_ring(self):
        # A ring hangs at each record of the row, and sayings lead back to the first one.
        edges = [(0, 1), (1, 2), (1, 3), (2, 3), (1, 4), (0, 4), (4, 5), (4, 6), (5, 6), (4, 7), (0, 7), (7, 8), (0, 8)]
        for seed in range(30):
            Random(seed).shuffle(edges)
            matter = balanced(9, edges, seed)
            for first, second in pairs(9):
                self.assert_ways(matter, first, second)

    def test_sayings_about_one_pair(self):
        for many in (1, 2, 3, 40):
            matter = balanced(2, [(0, 1)] * many)
            found, side = ways(matter, 0, 1)
            self.assertEqual([sorted(found), side], [[(number,) for number in range(many)], (0,)])

    def test_rows_and_rings(self):
        row = [(at, at + 1) for at in range(23)]
        for first, second in ((0, 23), (0, 1), (22, 23), (5, 17)):
            found, _ = ways(balanced(24, row), first, second)
            self.assertEqual(found, [tuple(range(first, second))])
            ring = balanced(24, row + [(0, 23)])
            self.assertEqual(self.assert_ways(ring, first, second), 2)
            self.assertEqual({frozenset(way) for way in ways(ring, first, second)[0]},
                             {frozenset(range(first, second)), frozenset(range(24)) - frozenset(range(first, second))})

    def test_several_pieces(self):
        matter = balanced(7, [(0, 2), (2, 4), (1, 3), (3, 5), (1, 5)])
        for first, second in pairs(7):
            together = {first, second} <= {0, 2, 4} or {first, second} <= {1, 3, 5}
            self.assertEqual(bool(self.assert_ways(matter, first, second)), together)
        self.assertEqual(ways(matter, 1, 6), ([], ways(matter, 1, 6)[1]))
        self.assertEqual(ways(Matter(2, []), 0, 1), ([], (0,)))

    def test_the_words_mean_nothing_for_the_number(self):
        for seed in range(10):
            edges = [tuple(saying[1:3]) for saying in drawn(seed, 7, 15).sayings()]
            rows = [numbers(balanced(7, edges, other)) for other in range(5)]
            self.assertEqual(rows, [rows[0]] * 5)


class Numbers(unittest.TestCase):
    def test_the_example(self):
        self.assertEqual(numbers(EXAMPLE), [(0, 1, 3), (0, 2, 2), (0, 3, 0), (1, 2, 2), (1, 3, 0), (2, 3, 0)])

    def test_one_record(self):
        self.assertEqual(numbers(Matter(1, [])), [])

    def test_no_sayings(self):
        for records in (2, 5, 24):
            self.assertEqual(numbers(Matter(records, [])), [(first, second, 0) for first, second in pairs(records)])

    def test_as_many_as_ways_returns(self):
        for seed, matter in enumerate(shapes()):
            found = numbers(matter)
            self.assertIs(type(found), list)
            self.assertEqual([row[:2] for row in found], pairs(matter.records()))
            self.assertTrue(all(type(row) is tuple and len(row) == 3 for row in found))
            told = {row[:2]: row[2] for row in found}
            for first, second in sampled(matter, seed, 40):
                self.assertEqual(told[first, second], len(ways(matter, first, second)[0]))

    def test_all_pairs_of_the_greatest_matters(self):
        for seed in range(3):
            matter = drawn(seed, 24, 40)
            self.assertEqual(numbers(matter), [(one, two, len(ways(matter, one, two)[0])) for one, two in pairs(24)])

    def test_a_greatest_matter_that_hangs_together(self):
        edges = [(at, at + 1) for at in range(23)] + [(at, at + 7) for at in range(17)]
        matter = balanced(24, edges)
        self.assertEqual(len(matter), 40)
        for first, second, number in numbers(matter):
            self.assertEqual(number, len(ways(matter, first, second)[0]))
            self.assertGreaterEqual(number, 1)

    def test_the_least_number_of_wrong_sayings(self):
        """In a truth in which the two are what they are not in the one without a wrong saying."""
        for seed in range(50):
            matter = drawn(seed, 2 + seed % 5, seed % 13)
            truth = balance(matter)[1]
            for first, second, number in numbers(matter):
                word = "other" if holds(matter.records(), truth, (first, second, "same")) else "same"
                self.assertEqual(told_least(matter, [(first, second, word)], "sayings"), number)


class Unbalanced(unittest.TestCase):
    def assert_raised(self, matter):
        for call in (lambda: ways(matter, 0, 1), lambda: numbers(matter),
                     lambda: ways(matter, matter.records() - 2, matter.records() - 1)):
            with self.assertRaises(NotBalanced) as caught:
                call()
            self.assertIsInstance(caught.exception, WordError)
            ring = caught.exception.ring
            self.assertTrue(is_a_ring(matter, ring))
            self.assertEqual([is_ring(matter, ring), is_odd(matter, ring)], [True, True])

    def test_an_odd_ring(self):
        self.assert_raised(Matter(3, ODD))
        self.assert_raised(Matter(2, [("ann", 0, 1, "same"), ("ann", 0, 1, "other")]))

    def test_in_another_piece(self):
        rows = [("ann", 0, 1, "same"), ("bob", 6, 7, "other")]
        odd = [(teller, first + 3, second + 3, word) for teller, first, second, word in ODD]
        for sayings in (rows + odd, odd + rows, rows[:1] + odd + rows[1:]):
            self.assert_raised(Matter(8, sayings))

    def test_one_word_of_many(self):
        for seed, matter in enumerate(shapes()):
            sayings = matter.sayings()
            if not sayings:
                continue
            number = Random(seed).randrange(len(sayings))
            teller, first, second, word = sayings[number]
            sayings[number] = (teller, first, second, WORDS[1 - WORDS.index(word)])
            changed = Matter(matter.records(), sayings)
            if balance(changed)[0] == "no":
                self.assert_raised(changed)
            else:
                self.assertEqual(numbers(changed), numbers(matter))


class Calls(unittest.TestCase):
    def test_names(self):
        for call, names in ((ways, ["matter", "first", "second"]), (numbers, ["matter"])):
            self.assertEqual(list(signature(call).parameters), names)
            self.assertEqual([call.__module__, vars(module)[call.__name__]], ["whoseword.ways", call])
        self.assertEqual(ways(second=3, first=2, matter=EXAMPLE), ways(EXAMPLE, 2, 3))
        self.assertEqual(numbers(matter=EXAMPLE), numbers(EXAMPLE))

    def test_new_lists(self):
        for call in (lambda: numbers(EXAMPLE), lambda: ways(EXAMPLE, 0, 1)[0], lambda: ways(EXAMPLE, 0, 3)[0]):
            one, two = call(), call()
            self.assertIsNot(one, two)
            self.assertEqual(one, two)
            one.append(None)
            self.assertEqual(call(), two)

    def test_nothing_is_changed_and_results_are_equal(self):
        for matter in shapes()[::4]:
            before = Matter(matter.records(), matter.sayings())
            for first, second in pairs(matter.records())[:10]:
                self.assertEqual(ways(matter, first, second), ways(before, first, second))
            self.assertEqual(numbers(matter), numbers(before))
            self.assertEqual(matter, before)


if __name__ == "__main__":
    unittest.main()
