"""Odd lots and trees of cases: points 2, 3 and 9 to 11, and the interface, stage 5."""

import unittest
from copy import deepcopy
from inspect import signature
from itertools import combinations, product
from random import Random

from tests.reference import (
    WAYS_TO_COUNT, changes, many_wrong, obeying, random_assumed, random_matter, small_cases, told_fitting, told_least,
    told_odd_lot, told_tree,
)
from tests.values import WORDS, holds, many_values, nested, pairs
from whoseword import cases
from whoseword.cases import fit, is_odd_lot, is_tree, least
from whoseword.matters import Matter
from whoseword.rings import balance
from whoseword.truths import is_truth

MATTER = Matter(3, [("ann", 0, 1, "same"), ("bob", 1, 2, "other"), ("ann", 0, 2, "same")])
# The six sayings: 0 1, 0 2, 0 3, 1 2, 1 3, 2 3.
FOUR = Matter(4, [("ann", *pair, "other") for pair in pairs(4)])
# Two odd rings without a record in common.
TWICE = Matter(6, [("ann", 0, 1, "same"), ("bob", 1, 2, "same"), ("eve", 0, 2, "other"),
                   ("ann", 3, 4, "same"), ("dan", 4, 5, "same"), ("dan", 3, 5, "other")])
THINGS = [("lots", ((0,),)), 0, 1, 2, 3, -1, 99, True, False, None, "", "lots", "case", "same", (0,), (0, 1, 2), (), [0],
          {0: 1}, nested(50, 0)]


class Document(unittest.TestCase):
    def test_the_first_example(self):
        self.assertEqual(
            [least(MATTER, []), fit(MATTER, [], 0)[0], is_odd_lot(MATTER, [], (0, 1, 2)),
             is_tree(MATTER, [], 0, ("lots", ((0, 1, 2),)))],
            [1, "no", True, True])

    def test_the_second_example(self):
        matter = Matter(4, [("ann", one, other, "other") for one in range(4) for other in range(one + 1, 4)])
        self.assertEqual(
            [least(matter, []), least(matter, [], by="tellers"), least(matter, [(0, 1, "same"), (0, 2, "same")])],
            [2, 1, 3])
        self.assertIs(
            is_tree(matter, [(0, 1, "same")], 1, ("case", 2, 3, ("lots", ((0,), (5,))), ("lots", ((0,), (1, 3))))),
            False)


class OddLot(unittest.TestCase):
    def test_all_tuples_against_all_truths(self):
        for seed in range(60):
            records = 1 + seed % 5
            matter = random_matter(seed, records, seed % 6)
            assumed = random_assumed(seed, records, seed % 4)
            left = obeying(matter, assumed)
            for many in range(4):
                for value in product(range(-1, len(matter) + 1), repeat=many):
                    self.assertIs(is_odd_lot(matter, assumed, value), told_odd_lot(matter, left, value), value)

    def test_all_lots_of_many_sayings(self):
        for seed in range(4):
            matter = random_matter(seed, 5, 10)
            assumed = random_assumed(seed, 5, seed)
            left = obeying(matter, assumed)
            for many in range(1, 11):
                for value in combinations(range(10), many):
                    self.assertIs(is_odd_lot(matter, assumed, value), told_odd_lot(matter, left, value), value)

    def test_no_saying(self):
        for matter in (MATTER, FOUR, Matter(1, [])):
            self.assertIs(is_odd_lot(matter, [], ()), False)
        self.assertIs(is_odd_lot(MATTER, [(0, 1, "other"), (1, 2, "other")], ()), False)

    def test_the_numbers_ascend(self):
        for row in product(range(3), repeat=3):
            self.assertIs(is_odd_lot(MATTER, [], row), row == (0, 1, 2))
        assumed = [(0, 1, "other")]
        for value, good in (((0,), True), ((0, 0), False), ((0, 0, 0), False), ((1, 2), False)):
            self.assertIs(is_odd_lot(MATTER, assumed, value), good, value)
        three = Matter(2, [("ann", 0, 1, "same")] * 3)
        self.assertEqual([is_odd_lot(three, assumed, value) for value in ((0, 1, 2), (0, 2, 1), (2, 1, 0), (0, 1, 1))],
                         [True, False, False, False])

    def test_a_list_is_none(self):
        for value in ([0, 1, 2], [0], {0: 1, 1: 1, 2: 1}, "012", None, 0, True, MATTER, ((0, 1, 2),)):
            self.assertIs(is_odd_lot(MATTER, [], value), False)

    def test_things_that_are_no_numbers(self):
        assumed = [(0, 1, "other")]
        for thing in many_values() + [3, -3, -1, "0", (0,), 0.0, MATTER, nested(49, 0)]:
            good = type(thing) is int and thing == 0
            self.assertIs(is_odd_lot(MATTER, assumed, (thing,)), good, thing)
            self.assertIs(is_odd_lot(MATTER, [], (thing, 1, 2)), good, thing)
        self.assertIs(is_odd_lot(MATTER, [], (0, True, 2)), False)
        self.assertIs(is_odd_lot(MATTER, [], (False, 1, 2)), False)
        self.assertIs(is_odd_lot(MATTER, [(1, 2, "same")], (True,)), False)
        self.assertIs(is_odd_lot(MATTER, [(1, 2, "same")], (1,)), True)

    def test_any_values(self):
        for value in many_values() + [nested(50, (0, 1, 2)), balance(MATTER), fit(MATTER, [], 0), MATTER.sayings()]:
            self.assertIs(is_odd_lot(MATTER, [], value), False, value)

    def test_each_class_has_an_even_number_of_ends(self):
        # Just one condition is broken: the number of "other" is odd each time.
        for value in ((0,), (0, 1), (0, 1, 2), (0, 1, 3, 4), (0, 2, 4)):
            matter = Matter(5, [("ann", 0, 1, "other"), ("ann", 1, 2, "same"), ("ann", 2, 3, "same"),
                                ("ann", 0, 3, "same"), ("ann", 3, 4, "same")])
            self.assertIs(is_odd_lot(matter, [], value), False)
            self.assertIs(is_odd_lot(matter, [], (0, 1, 2, 3)), True)

    def test_the_number_of_others_is_odd(self):
        for words in product(WORDS, repeat=3):
            matter = Matter(3, [("ann", 0, 1, words[0]), ("ann", 1, 2, words[1]), ("ann", 0, 2, words[2])])
            self.assertIs(is_odd_lot(matter, [], (0, 1, 2)), words.count("other") % 2 == 1)

    def test_the_sides_count(self):
        matter = Matter(4, [("ann", 0, 2, "same"), ("bob", 1, 3, "same")])
        for one, other in product(WORDS, repeat=2):
            self.assertIs(is_odd_lot(matter, [(0, 1, one), (2, 3, other)], (0, 1)), one != other)
        for saying, assumption in product(WORDS, repeat=2):
            self.assertIs(is_odd_lot(Matter(2, [("ann", 0, 1, saying)]), [(0, 1, assumption)], (0,)), saying != assumption)

    def test_both_ends_in_one_class(self):
        matter = Matter(4, [("ann", 1, 3, "same"), ("bob", 1, 2, "other"), ("bob", 2, 3, "other"), ("bob", 0, 2, "same")])
        assumed = [(1, 2, "same"), (2, 3, "other")]
        self.assertEqual([is_odd_lot(matter, assumed, value) for value in ((0,), (1,), (2,), (3,))],
                         [True, True, False, False])
        self.assertEqual([is_odd_lot(matter, assumed, value) for value in ((0, 1), (0, 2), (1, 2), (0, 1, 2), (0, 3))],
                         [False, True, True, False, False])

    def test_rings_and_classes(self):
        self.assertIs(is_odd_lot(TWICE, [], (0, 1, 2)), True)
        self.assertIs(is_odd_lot(TWICE, [], (0, 1, 2, 3, 4, 5)), False)
        joined = [(0, 3, "same"), (1, 4, "other")]
        self.assertIs(is_odd_lot(TWICE, joined, (0, 3)), True)
        self.assertIs(is_odd_lot(TWICE, [(0, 3, "other"), (1, 4, "other")], (0, 3)), False)
        self.assertIs(is_odd_lot(TWICE, joined, (0, 4)), False)
        self.assertIs(is_odd_lot(TWICE, [(0, 3, "same"), (1, 4, "other"), (2, 5, "other")], (2, 5)), True)

    def test_what_is_odd_has_a_wrong_saying_in_each_truth(self):
        for matter, assumed in small_cases()[:40]:
            for many in (1, 2, 3):
                for value in combinations(range(len(matter)), many):
                    if is_odd_lot(matter, assumed, value):
                        part = Matter(matter.records(), [matter.sayings()[number] for number in value])
                        self.assertGreaterEqual(told_least(part, assumed, "sayings"), 1)


class Fit(unittest.TestCase):
    def assert_shown(self, matter, assumed, most, by):
        """What fit returns is what the truths say, and is shown right."""
        found = fit(matter, assumed, most, by=by)
        self.assertEqual([type(found), len(found)], [tuple, 2])
        word, shown = found
        if told_fitting(matter, assumed, most, by):
            self.assertEqual(word, "yes")
            self.assertIs(is_truth(matter, shown), True)
            self.assertTrue(all(holds(matter.records(), shown, pair) for pair in assumed))
            self.assertLessEqual(many_wrong(matter, shown, by), most)
            self.assertIs(is_tree(matter, assumed, most, shown, by=by), False)
        else:
            self.assertEqual(word, "no")
            self.assertTrue(told_tree(matter, obeying(matter, assumed), most, shown, by))
            self.assertIs(is_tree(matter, assumed, most, shown, by=by), True)

    def test_against_all_truths(self):
        for matter, assumed in small_cases():
            for by in WAYS_TO_COUNT:
                for most in range(told_least(matter, assumed, by) + 3):
                    self.assert_shown(matter, assumed, most, by)

    def test_the_least_number_and_the_one_before(self):
        for seed in range(150):
            matter = random_matter(seed, 2 + seed % 5, seed % 13)
            assumed = random_assumed(seed, matter.records(), seed % 3)
            for by in WAYS_TO_COUNT:
                many = told_least(matter, assumed, by)
                self.assertEqual(fit(matter, assumed, many, by=by)[0], "yes")
                if many:
                    self.assertEqual(fit(matter, assumed, many - 1, by=by)[0], "no")

    def test_never_a_tree_where_a_truth_fits(self):
        for matter, assumed in small_cases()[::2]:
            for by in WAYS_TO_COUNT:
                many = told_least(matter, assumed, by)
                trees = [fit(matter, assumed, most, by=by)[1] for most in range(many)]
                for tree in trees:
                    for most in (many, many + 1, 100):
                        self.assertIs(is_tree(matter, assumed, most, tree, by=by), False)

    def test_no_sayings_and_one_record(self):
        for records in (1, 2, 8):
            for by in WAYS_TO_COUNT:
                for most in (0, 1, 5):
                    self.assert_shown(Matter(records, []), [], most, by)
        self.assertEqual(fit(Matter(1, []), [], 0), ("yes", ()))

    def test_assumptions_that_decide_all(self):
        assumed = [(0, 1, "same"), (1, 2, "same"), (0, 3, "other")]
        for most in range(5):
            for by in WAYS_TO_COUNT:
                self.assert_shown(FOUR, assumed, most, by)
        self.assertEqual(fit(FOUR, assumed, 3), ("yes", (3,)))
        self.assertEqual(fit(FOUR, assumed, 2)[1][0], "lots")

    def test_numbers_beyond_all_sayings(self):
        for most in (6, 7, 40, 10 ** 30):
            for by in WAYS_TO_COUNT:
                self.assertEqual(fit(FOUR, [], most, by=by)[0], "yes")

    def test_greatest_small_matters(self):
        for seed in range(25):
            matter = random_matter(seed, 8, 16, tuple("abcdefghijklmnop"))
            for by in WAYS_TO_COUNT:
                many = told_least(matter, [], by)
                for most in (0, many - 1, many):
                    self.assert_shown(matter, [], max(0, most), by)

    def test_somewhat_greater_matters(self):
        for seed in range(3):
            matter = random_matter(seed, 10, 19)
            for by in WAYS_TO_COUNT:
                self.assert_shown(matter, [], least(matter, [], by=by), by)
                self.assert_shown(matter, [], 0, by)

    def test_sayings_are_counted_if_nothing_is_told(self):
        self.assertEqual(fit(FOUR, [], 1), fit(FOUR, [], 1, by="sayings"))
        self.assertEqual([fit(FOUR, [], 1)[0], fit(FOUR, [], 1, by="tellers")[0]], ["no", "yes"])
        self.assertEqual(fit(FOUR, [], 0, by="tellers")[0], "no")


class IsTree(unittest.TestCase):
    def assert_trees(self, matter, assumed, most, told, by="sayings"):
        for value, good in told:
            self.assertIs(is_tree(matter, assumed, most, value, by=by), good, value)
            self.assertIs(told_tree(matter, obeying(matter, assumed), most, value, by), good, value)

    def test_too_few_lots(self):
        self.assert_trees(TWICE, [], 1, [
            (("lots", ((0, 1, 2), (3, 4, 5))), True),
            (("lots", ((3, 4, 5), (0, 1, 2))), True),
            (("lots", ((0, 1, 2),)), False),
            (("lots", ()), False),
        ])
        self.assert_trees(TWICE, [], 0, [
            (("lots", ((0, 1, 2), (3, 4, 5))), True),
            (("lots", ((0, 1, 2),)), True),
            (("lots", ()), False),
        ])
        self.assert_trees(TWICE, [], 2, [(("lots", ((0, 1, 2), (3, 4, 5))), False)])

    def test_lots_that_share_a_saying(self):
        matter = Matter(4, [("a", 0, 1, "same"), ("b", 1, 2, "same"), ("c", 0, 2, "other"),
                            ("d", 1, 3, "same"), ("e", 0, 3, "other")])
        for value in ((0, 1, 2), (0, 3, 4)):
            self.assertIs(is_odd_lot(matter, [], value), True)
        for by in WAYS_TO_COUNT:
            self.assert_trees(matter, [], 0, [(("lots", ((0, 1, 2),)), True), (("lots", ((0, 3, 4),)), True),
                                              (("lots", ((0, 1, 2), (0, 3, 4))), False),
                                              (("lots", ((0, 1, 2), (0, 1, 2))), False)], by)
            self.assert_trees(matter, [], 1, [(("lots", ((0, 1, 2), (0, 3, 4))), False)], by)

    def test_lots_with_sayings_of_one_teller(self):
        # Both have a saying by ann.
        self.assert_trees(TWICE, [], 1, [(("lots", ((0, 1, 2), (3, 4, 5))), True)], "sayings")
        self.assert_trees(TWICE, [], 1, [(("lots", ((0, 1, 2), (3, 4, 5))), False)], "tellers")
        self.assert_trees(TWICE, [], 0, [(("lots", ((0, 1, 2), (3, 4, 5))), False)], "tellers")
        # One teller may have several sayings in one lot.
        self.assert_trees(TWICE, [], 0, [(("lots", ((3, 4, 5),)), True), (("lots", ((0, 1, 2),)), True)], "tellers")
        apart = Matter(6, [("z",) + saying[1:] if number == 3 else saying for number, saying in enumerate(TWICE.sayings())])
        self.assert_trees(apart, [], 1, [(("lots", ((0, 1, 2), (3, 4, 5))), True)], "tellers")

    def test_a_lot_that_is_not_odd(self):
        self.assert_trees(TWICE, [], 0, [
            (("lots", ((0, 1, 2), (3, 4))), False),
            (("lots", ((0, 1, 2), (3,))), False),
            (("lots", ((0, 1, 2), ())), False),
            (("lots", ((0, 2, 1),)), False),
            (("lots", ((),)), False),
            (("lots", ((0,),)), False),
        ])

    def test_odd_under_the_assumptions_of_the_branch(self):
        same, other = ("lots", ((2,),)), ("lots", ((0, 1),))
        matter = Matter(3, [("ann", 0, 1, "same"), ("bob", 1, 2, "same"), ("eve", 0, 2, "other")])
        self.assert_trees(matter, [], 0, [
            (("case", 0, 2, same, other), True),
            (("case", 0, 2, other, same), False),
            (("case", 0, 2, same, same), False),
            (("case", 0, 2, other, other), False),
            (("case", 0, 1, same, other), False),
            (same, False),
            (other, False),
        ])
        self.assert_trees(matter, [(0, 2, "same")], 0, [(same, True), (other, False)])
        self.assert_trees(matter, [(0, 2, "other")], 0, [(same, False), (other, True)])

    def test_a_case_within_a_case(self):
        tree = ("case", 0, 1, ("case", 1, 2, ("lots", ((2,),)), ("lots", ((1,),))), ("lots", ((0,),)))
        matter = Matter(3, [("ann", 0, 1, "same"), ("bob", 1, 2, "same"), ("eve", 0, 2, "other")])
        self.assert_trees(matter, [], 0, [
            (tree, True),
            (("case", 1, 2, tree, tree), False),
            (("case", 0, 1, tree[4], tree[3]), False),
            (("case", 0, 1, ("case", 0, 1, tree[3], tree[3]), tree[4]), False),
            (("case", 0, 1, ("case", 0, 2, ("lots", ((1,),)), ("lots", ((1,),))), tree[4]), False),
            (("case", 0, 1, ("case", 0, 2, ("lots", ((1, 2),)), ("lots", ((1,),))), tree[4]), True),
        ])
        self.assert_trees(matter, [(0, 1, "same")], 0, [(tree[3], True), (tree, False), (tree[4], False)])

    def test_two_records_in_one_class(self):
        good = ("lots", ((0,),))
        matter = Matter(4, [("ann", 0, 1, "other")])
        assumed = [(0, 1, "same"), (2, 3, "other"), (1, 2, "same")]
        for first, second in pairs(4):
            self.assert_trees(matter, assumed, 0, [(good, True), (("case", first, second, good, good), False)])
        for first, second in pairs(4):
            apart = first < 2 <= second
            self.assert_trees(matter, assumed[:2], 0, [(("case", first, second, good, good), apart)])

    def test_first_is_less_than_second(self):
        good = ("lots", ((0,),))
        matter = Matter(4, [("ann", 0, 1, "other")])
        for first, second in product(range(-2, 6), repeat=2):
            apart = 0 <= first < second < 4 and (first, second) != (0, 1)
            self.assert_trees(matter, [(0, 1, "same")], 0, [(("case", first, second, good, good), apart)])

    def test_records_of_other_kinds(self):
        good = ("lots", ((0,),))
        matter = Matter(4, [("ann", 0, 1, "other")])
        for thing in many_values() + [4, -4, 2.0, "2", (2,), matter]:
            self.assert_trees(matter, [(0, 1, "same")], 0, [
                (("case", thing, 2, good, good), type(thing) is int and thing in (0, 1)),
                (("case", 0, thing, good, good), False),
            ])

    def test_another_word_in_front(self):
        good = ("lots", ((0, 1, 2),))
        self.assertIs(is_tree(MATTER, [], 0, good), True)
        for word in many_values() + ["Lots", "lot", "lots ", "case", ("lots",), "yes", "no", "one", "ask", MATTER]:
            self.assertIs(is_tree(MATTER, [], 0, (word, good[1])), False)
        branches = ("lots", ((0,),)), ("lots", ((1, 2),))
        self.assertIs(is_tree(MATTER, [], 0, ("case", 0, 1, branches[1], branches[0])), True)
        for word in many_values() + ["Case", "cases", "lots", ["case"], "ask"]:
            self.assertIs(is_tree(MATTER, [], 0, (word, 0, 1, branches[1], branches[0])), False)

    def test_another_kind_or_length(self):
        lots = ((0, 1, 2),)
        same, other = ("lots", ((1, 2),)), ("lots", ((0,),))
        for value in (["lots", lots], ("lots", [(0, 1, 2)]), ("lots", ([0, 1, 2],)), ("lots", lots, ()), ("lots",), lots,
                      ("lots", {(0, 1, 2): True}), {"lots": lots}, ("lots", (0, 1, 2)), ("lots", (lots,)),
                      ("lots", "012"), ("lots", None), (lots, "lots"), (("lots", lots),), "lots", ("lots", 1)):
            self.assertIs(is_tree(MATTER, [], 0, value), False, value)
        self.assertIs(is_tree(MATTER, [], 0, ("case", 0, 1, same, other)), True)
        for value in (["case", 0, 1, same, other], ("case", 0, 1, list(same), other), ("case", 0, 1, same, list(other)),
                      ("case", 0, 1, same), ("case", 0, 1), ("case",), ("case", 0, 1, same, other, other),
                      ("case", (0, 1), same, other), ("case", 0, 1, same, None), ("case", 0, 1, None, other),
                      ("case", 0, 1, (same, other)), (0, 1, same, other), ("case", 0, 1, "lots", other)):
            self.assertIs(is_tree(MATTER, [], 0, value), False, value)

    def test_any_values(self):
        values = many_values() + [
            MATTER, fit, nested(50, ("lots", ((0, 1, 2),))), nested(49, ("lots", ())), MATTER.sayings(),
            balance(MATTER), fit(MATTER, [], 0), fit(MATTER, [], 1), ("no", None),
        ]
        for value in values:
            for by in WAYS_TO_COUNT:
                self.assertIs(is_tree(MATTER, [], 0, value, by=by), False, value)
                self.assertIs(is_tree(MATTER, [], 0, ("lots", value), by=by), False, value)
                self.assertIs(is_tree(MATTER, [], 0, ("lots", (value,)), by=by), False, value)
                self.assertIs(is_tree(MATTER, [], 0, ("case", 0, 1, value, value), by=by), False, value)

    def test_cases_that_are_nested_deep(self):
        value = ("lots", ((0, 1, 2),))
        for _ in range(49):
            value = ("case", 0, 1, value, value)
        self.assertIs(is_tree(MATTER, [], 0, value), False)
        value = ("lots", ((0, 1, 2),))
        for depth in range(1, 50):
            value = ("case", 0, depth % 3, value, ("lots", ((0, 1, 2),)))
            self.assertIs(is_tree(MATTER, [], 0, value), depth < 3)

    def test_a_tree_against_a_number_and_lesser_ones(self):
        for matter, assumed in small_cases()[::3]:
            for by in WAYS_TO_COUNT:
                for most in range(told_least(matter, assumed, by)):
                    tree = fit(matter, assumed, most, by=by)[1]
                    for lesser in range(most + 1):
                        self.assertIs(is_tree(matter, assumed, lesser, tree, by=by), True)

    def test_more_lots_than_needed(self):
        tree = ("lots", tuple((number,) for number in range(5)))
        matter = Matter(2, [("abcde"[number], 0, 1, "other") for number in range(5)])
        for most in range(7):
            for by in WAYS_TO_COUNT:
                self.assert_trees(matter, [(0, 1, "same")], most, [(tree, most < 5)], by)

    def test_both_ways_to_count(self):
        """A tree where tellers are counted is one where sayings are, too; not always the other way round."""
        found = []
        for matter, assumed in small_cases()[::3]:
            for most in range(told_least(matter, assumed, "tellers")):
                tree = fit(matter, assumed, most, by="tellers")[1]
                self.assertIs(is_tree(matter, assumed, most, tree), True)
            for most in range(told_least(matter, assumed, "sayings")):
                tree = fit(matter, assumed, most)[1]
                found.append(is_tree(matter, assumed, most, tree, by="tellers"))
                self.assertIs(found[-1], told_tree(matter, obeying(matter, assumed), most, tree, "tellers"))
        self.assertEqual(sorted(set(found)), [False, True])

    def test_trees_with_parts_exchanged(self):
        for seed in range(30):
            matter = random_matter(seed, 2 + seed % 4, 3 + seed % 6)
            assumed = random_assumed(seed, matter.records(), seed % 2)
            left = obeying(matter, assumed)
            for by in WAYS_TO_COUNT:
                most = told_least(matter, assumed, by) - 1
                if most < 0:
                    continue
                tree = fit(matter, assumed, most, by=by)[1]
                values = changes(tree, THINGS)
                for value in Random(seed).sample(values, min(400, len(values))):
                    good = told_tree(matter, left, most, value, by)
                    self.assertIs(is_tree(matter, assumed, most, value, by=by), good, value)

    def test_all_changes_of_few_trees(self):
        for matter, most, tree in (
            (MATTER, 0, ("lots", ((0, 1, 2),))),
            (TWICE, 1, ("lots", ((0, 1, 2), (3, 4, 5)))),
            (MATTER, 0, ("case", 0, 1, ("lots", ((1, 2),)), ("lots", ((0,),)))),
            (FOUR, 1, fit(FOUR, [], 1)[1]),
        ):
            left = obeying(matter, [])
            self.assertIs(is_tree(matter, [], most, tree), True)
            for value in changes(tree, THINGS):
                self.assertIs(is_tree(matter, [], most, value), told_tree(matter, left, most, value, "sayings"), value)

    def test_the_tree_of_another_matter(self):
        for seed in range(40):
            one, other = random_matter(seed, 4, 7), random_matter(seed + 1, 4, 7)
            for most in range(told_least(one, [], "sayings")):
                tree = fit(one, [], most)[1]
                self.assertIs(is_tree(other, [], most, tree), told_tree(other, obeying(other, []), most, tree, "sayings"))
            self.assertIs(is_tree(Matter(1, []), [], 0, ("lots", ((0,),))), False)


class Least(unittest.TestCase):
    def test_against_all_truths(self):
        for matter, assumed in small_cases():
            for by in WAYS_TO_COUNT:
                found = least(matter, assumed, by=by)
                self.assertIs(type(found), int)
                self.assertEqual(found, told_least(matter, assumed, by))

    def test_many_matters(self):
        for seed in range(300):
            matter = random_matter(seed, 1 + seed % 6, seed % 14)
            assumed = random_assumed(seed, matter.records(), seed % 4)
            for by in WAYS_TO_COUNT:
                self.assertEqual(least(matter, assumed, by=by), told_least(matter, assumed, by))

    def test_no_sayings(self):
        for records in (1, 2, 8):
            for by in WAYS_TO_COUNT:
                self.assertEqual(least(Matter(records, []), [], by=by), 0)
        self.assertEqual(least(Matter(3, []), [(0, 1, "other"), (0, 2, "other")]), 0)

    def test_all_sayings_are_wrong(self):
        matter = Matter(3, [("ann", 0, 1, "same"), ("bob", 0, 1, "same"), ("ann", 1, 2, "other")])
        assumed = [(0, 1, "other"), (1, 2, "same")]
        self.assertEqual([least(matter, assumed), least(matter, assumed, by="tellers")], [3, 2])
        self.assertEqual([least(matter, assumed[:1]), least(matter, assumed[:1], by="tellers")], [2, 2])
        self.assertEqual([least(matter, assumed[1:]), least(matter, assumed[1:], by="tellers")], [1, 1])

    def test_equal_sayings_count_each(self):
        matter = Matter(2, [("ann", 0, 1, "same")] * 3 + [("ann", 0, 1, "other"), ("bob", 0, 1, "other")])
        self.assertEqual([least(matter, []), least(matter, [], by="tellers")], [2, 1])
        self.assertEqual([least(matter, [(0, 1, "other")]), least(matter, [(0, 1, "other")], by="tellers")], [3, 1])
        self.assertEqual([least(matter, [(0, 1, "same")]), least(matter, [(0, 1, "same")], by="tellers")], [2, 2])

    def test_assumptions_that_decide_all(self):
        for words in product(WORDS, repeat=3):
            assumed = [(0, 3, words[0]), (1, 3, words[1]), (2, 3, words[2])]
            for by in WAYS_TO_COUNT:
                self.assertEqual(len(obeying(FOUR, assumed)), 1)
                self.assertEqual(least(FOUR, assumed, by=by), told_least(FOUR, assumed, by))


class Calls(unittest.TestCase):
    def test_names(self):
        told = [(fit, ["matter", "assumed", "most", "by"]), (is_tree, ["matter", "assumed", "most", "value", "by"]),
                (least, ["matter", "assumed", "by"])]
        for call, names in told:
            parameters = signature(call).parameters
            self.assertEqual(list(parameters), names)
            self.assertEqual([parameters["by"].kind, parameters["by"].default], [parameters["by"].KEYWORD_ONLY, "sayings"])
        self.assertEqual(list(signature(is_odd_lot).parameters), ["matter", "assumed", "value"])
        for call in (fit, is_tree, least, is_odd_lot):
            self.assertEqual([call.__module__, vars(cases)[call.__name__]], ["whoseword.cases", call])

    def test_by_name(self):
        self.assertEqual(fit(by="tellers", most=0, assumed=[], matter=FOUR), fit(FOUR, [], 0, by="tellers"))
        self.assertIs(is_tree(value=("lots", ((0, 1, 2),)), by="sayings", most=0, assumed=[], matter=MATTER), True)
        self.assertIs(is_odd_lot(value=(0, 1, 2), assumed=[], matter=MATTER), True)
        self.assertEqual(least(by="tellers", assumed=[], matter=FOUR), 1)

    def test_by_is_passed_by_its_name_alone(self):
        with self.assertRaises(TypeError):
            fit(FOUR, [], 0, "tellers")
        with self.assertRaises(TypeError):
            is_tree(FOUR, [], 0, ("lots", ()), "tellers")
        with self.assertRaises(TypeError):
            least(FOUR, [], "tellers")

    def test_nothing_is_changed_and_results_are_equal(self):
        for matter, assumed in small_cases()[::2]:
            before = Matter(matter.records(), matter.sayings()), deepcopy(assumed)
            for by in WAYS_TO_COUNT:
                for most in (0, 1, 2):
                    found = fit(matter, assumed, most, by=by)
                    self.assertEqual(found, fit(before[0], list(before[1]), most, by=by))
                    self.assertEqual(is_tree(matter, assumed, most, found[1], by=by), found[0] == "no")
                self.assertEqual(least(matter, assumed, by=by), least(matter, assumed, by=by))
            is_odd_lot(matter, assumed, (0,))
            self.assertEqual((matter, assumed), before)
        value = ("case", 0, 1, ["lots", [(0,)]], {"lots": [0]})
        before = deepcopy(value)
        self.assertIs(is_tree(MATTER, [], 0, value), False)
        self.assertEqual(value, before)


if __name__ == "__main__":
    unittest.main()
