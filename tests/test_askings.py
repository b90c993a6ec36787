"""Which pairs to have settled until all is known: points 2, 3 and 15, and the interface, stage 9."""

import unittest
from copy import deepcopy
from inspect import signature
from itertools import product
from random import Random

from tests.reference import (
    WAYS_TO_COUNT, changes, random_assumed, random_matter, small_cases, told_askings, told_fitting, told_least,
    word_of_all,
)
from tests.values import WORDS, holds, many_values, nested, pairs, truths
from whoseword import askings as module
from whoseword.askings import askings, is_askings
from whoseword.cases import fit
from whoseword.errors import NoFit, WordError
from whoseword.matters import Matter
from whoseword.pairs import classes, fitting, pair_word
from whoseword.rings import balance

EXAMPLE = Matter(2, [("ann", 0, 1, "same"), ("bob", 0, 1, "other")])
# Within 1, these truths fit: (), (2,), (2, 3).
MATTER = Matter(4, [("ann", 0, 1, "same"), ("bob", 0, 1, "same"), ("ann", 1, 2, "other"), ("eve", 2, 3, "same")])
TREE = ("ask", 0, 2, ("one", ()), ("ask", 2, 3, ("one", (2, 3)), ("one", (2,))))
ODD = Matter(3, [("ann", 0, 1, "same"), ("bob", 1, 2, "other"), ("ann", 0, 2, "same")])
THINGS = [("one", ()), 0, 1, 2, 3, -1, 99, True, False, None, "", "one", "ask", "same", (), (1,), (2,), (2, 3), [2], {2: 3},
          nested(50, 0)]


def ways_into(tree):
    """The number of askings on each way into a tree."""
    if tree[0] == "one":
        return [0]
    return [1 + many for part in tree[3:] for many in ways_into(part)]


def drawn_tree(chance, matter, left):
    """A tree of askings with open pairs that are drawn."""
    if len(left) == 1:
        return ("one", left[0])
    parted = [pair for pair in pairs(matter.records()) if word_of_all(matter, left, *pair) == "open"]
    first, second = chance.choice(parted)
    same = [truth for truth in left if holds(matter.records(), truth, (first, second, "same"))]
    apart = [truth for truth in left if truth not in same]
    return ("ask", first, second, drawn_tree(chance, matter, same), drawn_tree(chance, matter, apart))


class Askings(unittest.TestCase):
    def assert_tree(self, matter, assumed, most, by):
        tree = askings(matter, assumed, most, by=by)
        self.assertTrue(told_askings(matter, told_fitting(matter, assumed, most, by), tree))
        self.assertIs(is_askings(matter, assumed, most, tree, by=by), True)
        self.assertLess(max(ways_into(tree)), len(classes(matter, assumed, most, by=by)))
        return tree

    def assert_no_fit(self, matter, assumed, most, by):
        with self.assertRaises(NoFit) as caught:
            askings(matter, assumed, most, by=by)
        self.assertEqual(caught.exception.most, most)
        self.assertIsInstance(caught.exception, WordError)

    def assert_leaves(self, matter, assumed, most, by, tree, asked):
        """One truth at each leaf, and open pairs above, by the functions of the package that tell of pairs."""
        under = assumed + asked
        if tree[0] == "one":
            self.assertEqual(fitting(matter, under, most, by=by), [tree[1]])
            return
        _, first, second, one, other = tree
        self.assertEqual(pair_word(matter, under, first, second, most, by=by)[0], "open")
        self.assert_leaves(matter, assumed, most, by, one, asked + [(first, second, "same")])
        self.assert_leaves(matter, assumed, most, by, other, asked + [(first, second, "other")])

    def test_the_example(self):
        self.assertEqual(askings(EXAMPLE, [], 1), ("ask", 0, 1, ("one", ()), ("one", (1,))))

    def test_against_all_truths(self):
        deepest = 0
        for matter, assumed in small_cases():
            for by in WAYS_TO_COUNT:
                many = told_least(matter, assumed, by)
                for most in range(many):
                    self.assert_no_fit(matter, assumed, most, by)
                for most in (many, many + 1, many + 2, 40):
                    tree = self.assert_tree(matter, assumed, most, by)
                    deepest = max(deepest, max(ways_into(tree)))
        self.assertEqual(deepest, 7)

    def test_by_words_and_truths_that_fit(self):
        for seed in range(30):
            matter = random_matter(seed, 2 + seed % 4, seed % 8)
            assumed = random_assumed(seed, matter.records(), seed % 3)
            for by in WAYS_TO_COUNT:
                for more in range(3):
                    most = told_least(matter, assumed, by) + more
                    tree = self.assert_tree(matter, assumed, most, by)
                    self.assert_leaves(matter, assumed, most, by, tree, [])

    def test_one_truth(self):
        self.assertEqual(askings(Matter(1, []), [], 0), ("one", ()))
        self.assertEqual(askings(MATTER, [], 0), ("one", (2, 3)))
        self.assertEqual(askings(MATTER, [(0, 1, "other"), (1, 2, "other"), (0, 3, "other")], 4), ("one", (1, 3)))

    def test_all_truths(self):
        for records in range(1, 9):
            tree = self.assert_tree(Matter(records, []), [], 0, "sayings")
            self.assertEqual(ways_into(tree), [records - 1] * len(truths(records)))

    def test_fewer_askings_than_classes(self):
        matter = Matter(8, [("ann", 0, 1, "same"), ("bob", 2, 3, "other"), ("eve", 4, 5, "same"), ("dan", 6, 7, "other")])
        for most, many in ((0, 4), (1, 8)):
            self.assertEqual(len(classes(matter, [], most)), many)
            self.assertLess(max(ways_into(self.assert_tree(matter, [], most, "sayings"))), many)

    def test_assumptions(self):
        self.assertEqual(self.assert_tree(EXAMPLE, [(0, 1, "same")], 1, "sayings"), ("one", ()))
        self.assertEqual(self.assert_tree(EXAMPLE, [(0, 1, "other")], 1, "tellers"), ("one", (1,)))
        tree = self.assert_tree(Matter(4, []), [(0, 1, "other"), (2, 3, "same")], 0, "sayings")
        self.assertEqual(ways_into(tree), [1, 1])

    def test_no_fit(self):
        for by in WAYS_TO_COUNT:
            self.assert_no_fit(ODD, [], 0, by)
            self.assert_no_fit(EXAMPLE, [(0, 1, "same")], 0, by)
            self.assert_tree(ODD, [], 1, by)
        self.assert_no_fit(MATTER, [(0, 1, "other")], 1, "sayings")

    def test_both_ways_to_count(self):
        matter = Matter(2, [("ann", 0, 1, "same"), ("ann", 0, 1, "same"), ("bob", 0, 1, "other")])
        self.assertEqual([askings(matter, [], 1), askings(matter, [], 1, by="sayings")], [("one", ())] * 2)
        self.assertEqual(askings(matter, [], 1, by="tellers"), ("ask", 0, 1, ("one", ()), ("one", (1,))))


class IsAskings(unittest.TestCase):
    def assert_told(self, matter, assumed, most, rows, by="sayings"):
        left = told_fitting(matter, assumed, most, by)
        for value, good in rows:
            self.assertIs(is_askings(matter, assumed, most, value, by=by), good, value)
            self.assertEqual(told_askings(matter, left, value), good, value)

    def test_the_example(self):
        self.assertIs(is_askings(EXAMPLE, [(0, 1, "same")], 1, ("one", ())), True)
        self.assertIs(is_askings(EXAMPLE, [], 1, ("one", ())), False)

    def test_a_tree(self):
        self.assert_told(MATTER, [], 1, [(TREE, True)])

    def test_a_leaf_where_several_truths_fit(self):
        self.assert_told(MATTER, [], 1, [(("one", truth), False) for truth in truths(4)])
        self.assert_told(MATTER, [], 1, [(TREE[:4] + (("one", truth),), False) for truth in truths(4)])

    def test_a_leaf_with_another_truth(self):
        for truth in truths(4):
            self.assert_told(MATTER, [], 0, [(("one", truth), truth == (2, 3))])
            self.assert_told(MATTER, [], 1, [(TREE[:3] + (("one", truth), TREE[4]), truth == ())])

    def test_a_leaf_where_no_truth_fits(self):
        for truth in truths(3):
            self.assert_told(ODD, [], 0, [(("one", truth), False)])
            self.assert_told(ODD, [], 0, [(("ask", 0, 1, ("one", truth), ("one", truth)), False)])
        self.assert_told(EXAMPLE, [(0, 1, "other")], 0, [(("one", (1,)), False), (("one", ()), False)])

    def test_what_is_no_truth(self):
        for truth in ([2, 3], (3, 2), (2, 2, 3), (2, 3, 3), (2, 3, 4), (0, 2, 3), "23", {2: 3}, None, 2, ((2, 3),), (2, "3")):
            self.assertIs(is_askings(MATTER, [], 0, ("one", truth)), False)
        self.assertIs(is_askings(MATTER, [], 0, ("one", (2, 3))), True)

    def test_a_pair_that_is_not_open(self):
        good = ("one", (2, 3))
        for first, second in pairs(4):
            self.assert_told(MATTER, [], 0, [(("ask", first, second, good, good), False)])
        # All pairs but 0 and 1 are open within 1.
        self.assert_told(MATTER, [], 1, [(("ask", 0, 1, TREE, TREE), False), (("ask", 0, 1, TREE, ("one", ())), False)])
        self.assert_told(MATTER, [], 1, [(TREE[:3] + (("ask", 2, 3, ("one", ()), ("one", ())), TREE[4]), False)])
        self.assert_told(MATTER, [], 1, [(("ask", 0, 2, TREE, TREE), False)])
        self.assert_told(MATTER, [], 1, [(TREE[:4] + (TREE,), False)])

    def test_first_is_less_than_second(self):
        for first, second in product(range(-3, 6), repeat=2):
            good = (first, second) in ((0, 2), (1, 2))
            self.assert_told(MATTER, [], 1, [(("ask", first, second) + TREE[3:], good)])
        self.assert_told(EXAMPLE, [], 1, [(("ask", 1, 0, ("one", ()), ("one", (1,))), False)])
        self.assert_told(EXAMPLE, [], 1, [(("ask", -1, 1, ("one", ()), ("one", (1,))), False)])

    def test_branches_exchanged(self):
        self.assert_told(MATTER, [], 1, [(TREE[:3] + (TREE[4], TREE[3]), False)])
        self.assert_told(EXAMPLE, [], 1, [(("ask", 0, 1, ("one", (1,)), ("one", ())), False)])
        self.assert_told(EXAMPLE, [], 1, [(("ask", 0, 1, ("one", ()), ("one", ())), False)])

    def test_another_word_in_front(self):
        self.assertIs(is_askings(MATTER, [], 0, ("one", (2, 3))), True)
        for word in many_values() + ["One", "one ", "ask", "lots", ("one",), ["one"], b"one", MATTER]:
            self.assertIs(is_askings(MATTER, [], 0, (word, (2, 3))), False)
        for word in many_values() + ["Ask", "asks", "one", "case", ["ask"], MATTER]:
            self.assertIs(is_askings(MATTER, [], 1, (word,) + TREE[1:]), False)

    def test_another_kind_or_length(self):
        for value in (["one", (2, 3)], ("one",), ("one", (2, 3), ()), ("one", 2, 3), (("one", (2, 3)),), {"one": (2, 3)}, "one",
                      ((2, 3),), (2, 3), ((2, 3), "one"), ("yes", (2, 3))):
            self.assertIs(is_askings(MATTER, [], 0, value), False, value)
        for value in (list(TREE), TREE[:4], TREE + (None,), TREE[:3], ("ask",), ("ask", (0, 2)) + TREE[3:], (TREE,),
                      TREE[:3] + (list(TREE[3]), TREE[4]), TREE[:4] + (list(TREE[4]),), TREE[:3] + (TREE[3:],),
                      ("ask", 0, 2, None, TREE[4]), TREE[:4] + (None,), TREE[1:]):
            self.assertIs(is_askings(MATTER, [], 1, value), False, value)

    def test_records_of_other_kinds(self):
        tree = ("ask", 1, 2) + TREE[3:]
        self.assertIs(is_askings(MATTER, [], 1, tree), True)
        for thing in many_values() + [4, -4, "2", (2,), 1.0, 2.0, MATTER]:
            self.assertIs(is_askings(MATTER, [], 1, ("ask", thing, 2) + TREE[3:]), type(thing) is int and thing in (0, 1), thing)
            self.assertIs(is_askings(MATTER, [], 1, ("ask", 1, thing) + TREE[3:]), False, thing)
        for first in (False, True):
            self.assertIs(is_askings(MATTER, [], 1, ("ask", first, 2) + TREE[3:]), False)
        self.assertIs(is_askings(EXAMPLE, [], 1, ("ask", 0, True, ("one", ()), ("one", (1,)))), False)
        self.assertIs(is_askings(EXAMPLE, [], 1, ("ask", 0, 1, ("one", ()), ("one", (True,)))), False)
        self.assertIs(is_askings(EXAMPLE, [(0, 1, "other")], 1, ("one", (True,))), False)

    def test_a_tree_that_asks_otherwise(self):
        """Any open pair may be asked, in any order, also where another one would be known sooner."""
        depths = set()
        for seed in range(80):
            chance = Random(seed)
            matter = random_matter(seed, 2 + seed % 6, seed % 9)
            assumed = random_assumed(seed, matter.records(), seed % 3)
            for by in WAYS_TO_COUNT:
                most = told_least(matter, assumed, by) + seed % 3
                tree = drawn_tree(chance, matter, told_fitting(matter, assumed, most, by))
                self.assert_told(matter, assumed, most, [(tree, True)], by)
                depths.add(max(ways_into(tree)) - max(ways_into(askings(matter, assumed, most, by=by))))
        self.assertTrue(any(depth > 0 for depth in depths))

    def test_more_askings_than_needed(self):
        # Four truths fit, of which two askings on each way can tell; a tree may also ask three times on one way.
        matter = Matter(4, [("ann", 0, number, "same") for number in (1, 2, 3)])
        self.assertEqual(fitting(matter, [], 1), [(), (1,), (2,), (3,)])
        quick = ("ask", 1, 2, ("ask", 0, 3, ("one", ()), ("one", (3,))), ("ask", 0, 1, ("one", (2,)), ("one", (1,))))
        slow = ("ask", 0, 1, ("ask", 0, 2, ("ask", 0, 3, ("one", ()), ("one", (3,))), ("one", (2,))), ("one", (1,)))
        self.assertEqual([max(ways_into(tree)) for tree in (quick, slow)], [2, 3])
        self.assert_told(matter, [], 1, [(quick, True), (slow, True)])
        # Not so if it asks of a pair that is known already.
        self.assert_told(matter, [], 1, [
            (slow[:4] + (("ask", 0, 2, ("one", (1,)), ("one", (1,))),), False),
            (slow[:4] + (("ask", 0, 1, ("one", (1,)), ("one", (1,))),), False),
            (("ask", 0, 1, slow[3], slow), False),
        ])

    def test_under_the_assumptions_of_the_branch(self):
        matter = Matter(3, [])
        good = ("ask", 1, 2, ("ask", 0, 1, ("one", ()), ("one", (1, 2))), ("ask", 0, 1, ("one", (2,)), ("one", (1,))))
        self.assert_told(matter, [], 0, [
            (good, True),
            (good[:3] + (good[4], good[3]), False),
            (("ask", 1, 2, good[3], good[3]), False),
            (("ask", 1, 2, good[3], ("ask", 1, 2, ("one", (2,)), ("one", (1,)))), False),
            (("ask", 1, 2, good[3], ("ask", 0, 2, ("one", (1,)), ("one", (2,)))), True),
        ])
        self.assert_told(matter, [(1, 2, "other")], 0, [(good[4], True), (good[3], False), (good, False)])

    def test_any_values(self):
        values = many_values() + [
            MATTER, askings, MATTER.sayings(), nested(50, TREE), nested(49, ("one", ())), balance(MATTER), classes(MATTER, [], 1),
            fit(MATTER, [], 1), fit(ODD, [], 0), fit(ODD, [], 0)[1], ("no", None), pair_word(MATTER, [], 0, 2, 1),
        ]
        for value in values:
            for by in WAYS_TO_COUNT:
                for matter in (MATTER, ODD, EXAMPLE):
                    self.assertIs(is_askings(matter, [], 1, value, by=by), False, value)
                    self.assertIs(is_askings(matter, [], 1, ("ask", 0, 1, value, value), by=by), False, value)
                good = value == (2, 3)
                self.assertIs(is_askings(MATTER, [], 0, ("one", value), by=by), good, value)
                self.assertIs(is_askings(MATTER, [], 1, ("ask", 0, 2, value, TREE[4]), by=by), False, value)

    def test_values_that_are_nested_deep(self):
        value = ("one", ())
        for _ in range(49):
            value = ("ask", 0, 1, value, value)
        self.assertIs(is_askings(EXAMPLE, [], 1, value), False)
        self.assertIs(is_askings(EXAMPLE, [], 0, value), False)
        value = ("one", ())
        for depth in range(50):
            value = ("ask", 0, 1 + depth % 7, value, ("one", (1,)))
        self.assertIs(is_askings(Matter(8, []), [], 0, value), False)

    def test_trees_with_parts_exchanged(self):
        for seed in range(30):
            matter = random_matter(seed, 2 + seed % 4, 3 + seed % 6)
            assumed = random_assumed(seed, matter.records(), seed % 2)
            for by in WAYS_TO_COUNT:
                least = told_least(matter, assumed, by)
                for most in (least, least + 1):
                    left = told_fitting(matter, assumed, most, by)
                    values = changes(askings(matter, assumed, most, by=by), THINGS)
                    for value in Random(seed).sample(values, min(300, len(values))):
                        good = told_askings(matter, left, value)
                        self.assertIs(is_askings(matter, assumed, most, value, by=by), good, value)

    def test_trees_of_cases_with_parts_exchanged(self):
        tree = fit(ODD, [], 0)[1]
        left = told_fitting(ODD, [], 1, "sayings")
        for value in changes(tree, THINGS):
            self.assertIs(is_askings(ODD, [], 0, value), False)
            self.assertIs(is_askings(ODD, [], 1, value), told_askings(ODD, left, value))

    def test_all_changes_of_few_trees(self):
        for matter, most, tree in ((MATTER, 1, TREE), (EXAMPLE, 1, askings(EXAMPLE, [], 1)), (MATTER, 0, ("one", (2, 3)))):
            left = told_fitting(matter, [], most, "sayings")
            self.assertIs(is_askings(matter, [], most, tree), True)
            for value in changes(tree, THINGS):
                self.assertIs(is_askings(matter, [], most, value), told_askings(matter, left, value), value)

    def test_the_tree_of_another_matter_or_number(self):
        for seed in range(40):
            one, other = random_matter(seed, 4, 5), random_matter(seed + 1, 4, 5)
            for by, most in product(WAYS_TO_COUNT, (1, 2)):
                if told_fitting(one, [], most, by):
                    tree = askings(one, [], most, by=by)
                    self.assert_told(other, [], most, [(tree, told_askings(other, told_fitting(other, [], most, by), tree))], by)
                    for number in range(4):
                        left = told_fitting(one, [], number, by)
                        self.assert_told(one, [], number, [(tree, told_askings(one, left, tree))], by)

    def test_both_ways_to_count(self):
        matter = Matter(2, [("ann", 0, 1, "same"), ("ann", 0, 1, "same"), ("bob", 0, 1, "other")])
        tree = ("ask", 0, 1, ("one", ()), ("one", (1,)))
        self.assert_told(matter, [], 1, [(tree, False), (("one", ()), True)], "sayings")
        self.assert_told(matter, [], 1, [(tree, True), (("one", ()), False)], "tellers")
        self.assertIs(is_askings(matter, [], 1, tree), False)


class Calls(unittest.TestCase):
    def test_names(self):
        for call, names in ((askings, ["matter", "assumed", "most", "by"]),
                            (is_askings, ["matter", "assumed", "most", "value", "by"])):
            parameters = signature(call).parameters
            self.assertEqual(list(parameters), names)
            self.assertEqual([parameters["by"].kind, parameters["by"].default], [parameters["by"].KEYWORD_ONLY, "sayings"])
            self.assertEqual([call.__module__, vars(module)[call.__name__]], ["whoseword.askings", call])

    def test_by_name(self):
        self.assertEqual(askings(by="tellers", most=1, assumed=[], matter=EXAMPLE), askings(EXAMPLE, [], 1, by="tellers"))
        self.assertIs(is_askings(by="sayings", value=TREE, most=1, assumed=[], matter=MATTER), True)
        with self.assertRaises(TypeError):
            askings(EXAMPLE, [], 1, "tellers")
        with self.assertRaises(TypeError):
            is_askings(EXAMPLE, [], 1, TREE, "tellers")

    def test_nothing_is_changed_and_results_are_equal(self):
        for matter, assumed in small_cases()[::4]:
            before = Matter(matter.records(), matter.sayings()), deepcopy(assumed)
            tree = askings(matter, assumed, 20)
            self.assertEqual(tree, askings(before[0], list(before[1]), 20))
            self.assertIs(is_askings(matter, assumed, 20, tree), True)
            self.assertEqual((matter, assumed), before)
        value = ("ask", 0, 1, ["one", []], {"one": [1]})
        before = deepcopy(value)
        self.assertIs(is_askings(EXAMPLE, [], 1, value), False)
        self.assertEqual(value, before)

    def test_each_word_of_each_saying(self):
        for words in product(WORDS, repeat=3):
            matter = Matter(3, [("ann", 0, 1, words[0]), ("bob", 1, 2, words[1]), ("eve", 0, 2, words[2])])
            for most in (1, 2, 3):
                self.assertTrue(told_askings(matter, told_fitting(matter, [], most, "sayings"), askings(matter, [], most)))


if __name__ == "__main__":
    unittest.main()
