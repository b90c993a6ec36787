"""Truths and assumptions: points 3, 5 and 6, and the interface, stage 2."""

import unittest
from copy import deepcopy
from itertools import permutations, product

from tests.values import WORDS, assumption_lists, holds, kinds, many_values, nested, pairs, truths
from whoseword.matters import Matter
from whoseword.truths import (
    contradiction, is_truth, obeys, sides, word_in, wrong_sayings, wrong_tellers,
)

MATTER = Matter(3, [("ann", 0, 1, "same"), ("bob", 1, 2, "other"), ("ann", 0, 2, "same")])


def first_contradicted(records, assumed):
    """By point 6 alone: the first one with which no truth obeys any more."""
    for number in range(len(assumed)):
        if not obeying(records, assumed[:number + 1]):
            return number
    return None


def obeying(records, assumed):
    return [truth for truth in truths(records) if all(holds(records, truth, one) for one in assumed)]


def told_sides(records, assumed):
    """By point 6 alone: one class if all truths that obey agree about the two."""
    rows = [kinds(records, truth) for truth in obeying(records, assumed)]
    found = []
    for record in range(records):
        least = min(one for one in range(records) if len({row[one] ^ row[record] for row in rows}) == 1)
        found.append((least, rows[0][least] ^ rows[0][record]))
    return found


class Document(unittest.TestCase):
    def test_the_first_example(self):
        self.assertEqual(
            [wrong_sayings(MATTER, ()), wrong_tellers(MATTER, (1,)), word_in((1,), 1, 2), obeys((1,), [(0, 2, "same")])],
            [(1,), ("ann",), "other", True])

    def test_the_second_example(self):
        self.assertEqual(
            [sides(MATTER, [(1, 2, "other")]),
             contradiction(MATTER, [(0, 1, "same"), (1, 2, "other"), (0, 2, "same")])],
            [[(0, 0), (1, 0), (1, 1)], 2])


class IsTruth(unittest.TestCase):
    def test_all_truths_are(self):
        for records in (1, 2, 3, 6):
            for truth in truths(records):
                self.assertIs(is_truth(Matter(records, []), truth), True)
        self.assertIs(is_truth(Matter(24, []), tuple(range(1, 24))), True)

    def test_nothing_else_of_small_integers_is(self):
        good = set(truths(4))
        for length in range(5):
            for value in product(range(-1, 6), repeat=length):
                self.assertIs(is_truth(Matter(4, []), value), value in good, value)

    def test_the_empty_one(self):
        for records in (1, 2, 24):
            self.assertIs(is_truth(Matter(records, []), ()), True)

    def test_a_list_is_none(self):
        for value in ([], [1], [1, 2], {}, {1: 2}, "", "1", None, 0, 1, True, range(1, 3)):
            self.assertIs(is_truth(MATTER, value), False, value)

    def test_integers_that_are_bools(self):
        for value in ((True,), (True, 2), (False,), (False, True), (1, True)):
            self.assertIs(is_truth(MATTER, value), False, value)

    def test_things_that_are_no_integers(self):
        for thing in many_values() + [1.0, Matter(3, []), nested(49, 1)]:
            if isinstance(thing, bool) or thing != 1:
                self.assertIs(is_truth(MATTER, (thing,)), False, thing)
                self.assertIs(is_truth(MATTER, (1, thing)), False, thing)

    def test_any_values(self):
        for value in many_values() + [MATTER, nested(50, 1)]:
            good = isinstance(value, tuple) and value in ((), (1, 2))
            self.assertIs(is_truth(MATTER, value), good, value)

    def test_the_number_of_records_counts(self):
        for records in range(1, 24):
            self.assertIs(is_truth(Matter(records, []), (records,)), False)
            self.assertIs(is_truth(Matter(records + 1, []), (records,)), True)


class Wrong(unittest.TestCase):
    def test_word_in_all_truths(self):
        for truth in truths(5):
            for first, second in pairs(5):
                other = (first in truth) + (second in truth) == 1
                self.assertEqual(word_in(truth, first, second), "other" if other else "same")

    def test_word_in_with_record_0(self):
        self.assertEqual([word_in((), 0, 1), word_in((1,), 0, 1), word_in((1,), 0, 2)], ["same", "other", "same"])

    def test_word_in_with_one_both_or_neither(self):
        self.assertEqual([word_in((1, 3), one, two) for one, two in ((1, 2), (2, 3), (1, 3), (2, 4))],
                         ["other", "other", "same", "same"])

    def test_each_saying_in_each_truth(self):
        sayings = [("ann", first, second, word) for first, second in pairs(5) for word in WORDS]
        matter = Matter(5, sayings)
        for truth in truths(5):
            wrong = [number for number, saying in enumerate(sayings) if not holds(5, truth, saying[1:])]
            self.assertEqual(wrong_sayings(matter, truth), tuple(wrong))
            self.assertEqual(wrong_tellers(matter, truth), ("ann",))

    def test_no_sayings(self):
        for truth in truths(3):
            self.assertEqual([wrong_sayings(Matter(3, []), truth), wrong_tellers(Matter(3, []), truth)], [(), ()])

    def test_none_wrong(self):
        matter = Matter(3, [("ann", 0, 1, "other"), ("bob", 1, 2, "other")])
        self.assertEqual([wrong_sayings(matter, (1,)), wrong_tellers(matter, (1,))], [(), ()])

    def test_equal_sayings_count_each(self):
        matter = Matter(2, [("ann", 0, 1, "same"), ("bob", 0, 1, "other"), ("ann", 0, 1, "same")])
        self.assertEqual([wrong_sayings(matter, (1,)), wrong_tellers(matter, (1,))], [(0, 2), ("ann",)])
        self.assertEqual([wrong_sayings(matter, ()), wrong_tellers(matter, ())], [(1,), ("bob",)])

    def test_a_teller_with_wrong_and_right_sayings(self):
        for sayings in ([("ann", 0, 1, "same"), ("ann", 0, 2, "same")], [("ann", 0, 2, "same"), ("ann", 0, 1, "same")]):
            self.assertEqual([wrong_tellers(Matter(3, sayings), truth) for truth in ((), (1,), (2,), (1, 2))],
                             [(), ("ann",), ("ann",), ("ann",)])

    def test_wrong_tellers_are_ascending(self):
        matter = Matter(2, [(teller, 0, 1, "same") for teller in ("eve", "b", "ann", "eve", "aa")])
        self.assertEqual([wrong_tellers(matter, (1,)), wrong_tellers(matter, ())], [("aa", "ann", "b", "eve"), ()])

    def test_a_matter_of_greatest_size(self):
        matter = Matter(24, [("ann", record, record + 1, "other") for record in range(23)] + [("bob", 0, 23, "same")] * 17)
        odd = tuple(range(1, 24, 2))
        self.assertEqual([wrong_sayings(matter, odd), wrong_tellers(matter, odd)], [tuple(range(23, 40)), ("bob",)])
        self.assertEqual([wrong_sayings(matter, ()), wrong_tellers(matter, ())], [tuple(range(23)), ("ann",)])


class Assumed(unittest.TestCase):
    def assert_as_told(self, records, assumed):
        matter = Matter(records, [])
        contradicted = first_contradicted(records, assumed)
        self.assertEqual(contradiction(matter, assumed), contradicted, assumed)
        if contradicted is None:
            self.assertEqual(sides(matter, assumed), told_sides(records, assumed), assumed)

    def test_no_assumptions(self):
        for records in (1, 2, 5, 24):
            matter = Matter(records, [])
            self.assertIsNone(contradiction(matter, []))
            self.assertEqual(sides(matter, []), [(record, 0) for record in range(records)])
        for truth in truths(4):
            self.assertIs(obeys(truth, []), True)

    def test_obeys_each_of_them(self):
        for length in range(3):
            for assumed in assumption_lists(4, length):
                for truth in truths(4):
                    self.assertIs(obeys(truth, assumed), all(holds(4, truth, one) for one in assumed))

    def test_all_lists_of_few_assumptions(self):
        for records in range(1, 5):
            for length in range(4):
                for assumed in assumption_lists(records, length):
                    self.assert_as_told(records, assumed)

    def test_the_same_assumption_twice(self):
        for first, second in pairs(3):
            for word in WORDS:
                once = [(first, second, word)]
                self.assertIsNone(contradiction(MATTER, once * 2))
                self.assertEqual(sides(MATTER, once * 2), sides(MATTER, once))
                self.assertEqual(sides(MATTER, once * 2)[second], (first, int(word == "other")))
                self.assertIs(obeys((), once * 2), word == "same")

    def test_a_direct_contradiction(self):
        for first, second in pairs(3):
            self.assertEqual(contradiction(MATTER, [(first, second, "same"), (first, second, "other")]), 1)
            self.assertEqual(contradiction(MATTER, [(first, second, "other"), (first, second, "same")]), 1)

    def test_a_contradiction_only_by_several_others(self):
        matter = Matter(6, [])
        round_about = [(0, 1, "other"), (1, 2, "same"), (2, 3, "other"), (3, 4, "same"), (4, 5, "same"), (0, 5, "other")]
        for row in permutations(round_about):
            self.assertEqual(contradiction(matter, list(row)), 5)
            self.assertIsNone(contradiction(matter, list(row[:5])))

    def test_the_first_of_several_contradictions(self):
        assumed = [(0, 1, "same"), (0, 1, "same"), (1, 2, "other"), (0, 2, "same"), (0, 1, "other"), (1, 2, "same")]
        self.assertEqual(contradiction(MATTER, assumed), 3)
        self.assertEqual(contradiction(MATTER, assumed[:3] + assumed[4:]), 3)
        self.assertEqual(contradiction(MATTER, assumed[2:4] + assumed[:1]), 2)
        self.assertEqual(contradiction(MATTER, assumed[5:] + assumed[3:]), 2)

    def test_classes_that_are_joined_in_different_orders(self):
        tree = [(3, 5, "other"), (1, 4, "same"), (2, 5, "other"), (4, 5, "other"), (0, 6, "other")]
        told = [(0, 0), (1, 0), (1, 0), (1, 0), (1, 0), (1, 1), (0, 1)]
        for row in permutations(tree):
            self.assertEqual(sides(Matter(7, []), list(row)), told)
            self.assertIsNone(contradiction(Matter(7, []), list(row)))

    def test_the_sides_are_against_the_least_record(self):
        for word, side in (("same", 0), ("other", 1)):
            assumed = [(2, 3, "other"), (1, 3, word), (4, 5, "other")]
            self.assertEqual(sides(Matter(6, []), assumed),
                             [(0, 0), (1, 0), (1, 1 - side), (1, side), (4, 0), (4, 1)])

    def test_records_that_no_assumption_names(self):
        self.assertEqual(sides(Matter(5, []), [(1, 3, "other")]), [(0, 0), (1, 0), (2, 0), (1, 1), (4, 0)])

    def test_one_class_of_all_records(self):
        chain = [(record, record + 1, "other") for record in range(23)]
        for assumed in (chain, chain[::-1], chain[::2] + chain[1::2]):
            self.assertEqual(sides(Matter(24, []), assumed), [(0, record % 2) for record in range(24)])
            self.assertIsNone(contradiction(Matter(24, []), assumed))
            self.assertEqual(contradiction(Matter(24, []), assumed + [(0, 23, "same")]), 23)
            self.assertIsNone(contradiction(Matter(24, []), assumed + [(0, 23, "other")]))

    def test_sayings_are_no_assumptions(self):
        self.assertEqual(sides(MATTER, []), [(0, 0), (1, 0), (2, 0)])
        self.assertIsNone(contradiction(MATTER, [(1, 2, "same"), (0, 1, "other")]))


class Calls(unittest.TestCase):
    def test_names(self):
        assumed = [(0, 1, "same"), (1, 2, "other"), (0, 2, "same")]
        self.assertIs(is_truth(matter=MATTER, value=(1,)), True)
        self.assertEqual(word_in(truth=(1,), first=1, second=2), "other")
        self.assertEqual(wrong_sayings(matter=MATTER, truth=()), (1,))
        self.assertEqual(wrong_tellers(matter=MATTER, truth=(1,)), ("ann",))
        self.assertIs(obeys(truth=(1,), assumed=assumed), False)
        self.assertEqual(contradiction(matter=MATTER, assumed=assumed), 2)
        self.assertEqual(sides(matter=MATTER, assumed=assumed[:2]), [(0, 0), (0, 0), (0, 1)])

    def test_nothing_is_changed_and_results_are_equal(self):
        sayings = MATTER.sayings()
        for assumed in assumption_lists(3, 2):
            before = deepcopy(assumed)
            for call in (contradiction, sides):
                self.assertEqual(call(MATTER, assumed), call(MATTER, assumed))
            self.assertEqual(obeys((1,), assumed), obeys((1,), assumed))
            self.assertEqual(assumed, before)
        value = [1, [2, {"a": 3}]]
        self.assertEqual([is_truth(MATTER, value), is_truth(MATTER, value), value], [False, False, [1, [2, {"a": 3}]]])
        self.assertEqual([wrong_sayings(MATTER, (1,)), wrong_tellers(MATTER, (1,))],
                         [wrong_sayings(MATTER, (1,)), wrong_tellers(MATTER, (1,))])
        self.assertEqual([MATTER.records(), MATTER.sayings()], [3, sayings])

    def test_sides_is_a_new_list_with_each_call(self):
        for assumed in ([], [(0, 1, "same")], [(0, 1, "same")] * 2):
            one, two = sides(MATTER, assumed), sides(MATTER, assumed)
            self.assertIsNot(one, two)
            one.clear()
            self.assertEqual(sides(MATTER, assumed), two)

    def test_kinds_of_results(self):
        self.assertIs(type(wrong_sayings(MATTER, ())), tuple)
        self.assertIs(type(wrong_tellers(MATTER, ())), tuple)
        told = sides(MATTER, [(0, 1, "other"), (1, 2, "other")])
        self.assertIs(type(told), list)
        for row in told:
            self.assertEqual([type(row), type(row[0]), type(row[1])], [tuple, int, int])


if __name__ == "__main__":
    unittest.main()
