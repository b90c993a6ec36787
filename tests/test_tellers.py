"""Which tellers are wrong, and on whom a pair hangs: points 2, 3 and 14, and the interface, stage 8."""

import unittest
from copy import deepcopy
from inspect import signature
from itertools import combinations
from random import Random

from tests.reference import (
    WAYS_TO_COUNT, obeying, random_assumed, random_matter, small_cases, told_fitting, told_least, word_of_all, wrong_in,
)
from tests.values import WORDS, pairs
from whoseword import tellers as module
from whoseword.matters import Matter
from whoseword.pairs import pair_word
from whoseword.tellers import blamed, hangs, teller_word
from whoseword.truths import is_truth

EXAMPLE = Matter(2, [("ann", 0, 1, "same"), ("bob", 0, 1, "other"), ("eve", 0, 1, "other")])
ALIKE = ("a", "ab", "aba", "abb", "b", "aaaaaaaa", "aaaaaaab")


def alike_cases():
    """Matters whose tellers' names begin alike, with assumptions."""
    found = []
    for seed in range(30):
        records = 2 + seed % 5
        matter = random_matter(seed, records, 3 + seed % 12, ALIKE)
        found.append((matter, random_assumed(seed, records, seed % 3)))
    return found


def wrong_ones(matter, truth):
    return {matter.sayings()[number][0] for number in wrong_in(matter, truth)}


class TellerWord(unittest.TestCase):
    def assert_word(self, matter, assumed, teller, most):
        """The word and both truths are what all truths tell; returns the word."""
        result = teller_word(matter, assumed, teller, most)
        self.assertEqual([type(result), len(result)], [tuple, 3])
        left = told_fitting(matter, assumed, most, "tellers")
        wrong = [truth for truth in left if teller in wrong_ones(matter, truth)]
        right = [truth for truth in left if truth not in wrong]
        word = {(True, False): "must", (False, True): "cannot", (True, True): "may"}.get((wrong != [], right != []), "none")
        self.assertEqual(result[0], word)
        for truth, fits in ((result[1], wrong), (result[2], right)):
            if fits:
                self.assertIs(is_truth(matter, truth), True)
                self.assertIn(truth, fits)
            else:
                self.assertIsNone(truth)
        return word

    def test_the_example(self):
        self.assertEqual([teller_word(EXAMPLE, [], "ann", 1), teller_word(EXAMPLE, [], "bob", 2)[0]],
                         [("must", (1,), None), "may"])

    def test_against_all_truths(self):
        words = set()
        for matter, assumed in small_cases() + alike_cases():
            many = told_least(matter, assumed, "tellers")
            for teller in matter.tellers():
                for most in sorted({0, max(0, many - 1), many, many + 1, len(matter.tellers()), 99}):
                    words.add(self.assert_word(matter, assumed, teller, most))
        self.assertEqual(words, {"must", "cannot", "may", "none"})

    def test_each_word(self):
        for teller, most, word in (("ann", 0, "none"), ("bob", 0, "none"), ("ann", 1, "must"), ("bob", 1, "cannot"),
                                   ("ann", 2, "may"), ("bob", 2, "may"), ("eve", 2, "may"), ("eve", 50, "may")):
            self.assertEqual(self.assert_word(EXAMPLE, [], teller, most), word)

    def test_most_0(self):
        matter = Matter(3, [("ann", 0, 1, "same"), ("bob", 1, 2, "other")])
        self.assertEqual([teller_word(matter, [], teller, 0) for teller in ("ann", "bob")], [("cannot", None, (2,))] * 2)
        self.assertEqual(teller_word(matter, [(0, 1, "other")], "bob", 0), ("none", None, None))

    def test_the_truth_without_a_record_is_a_truth(self):
        matter = Matter(2, [("ann", 0, 1, "same"), ("bob", 0, 1, "same"), ("eve", 0, 1, "other")])
        self.assertEqual([teller_word(matter, [], "eve", 1), teller_word(matter, [], "ann", 1)],
                         [("must", (), None), ("cannot", None, ())])
        self.assertEqual(teller_word(matter, [], "eve", 3), ("may", (), (1,)))

    def test_beyond_the_number_of_tellers(self):
        for matter, assumed in alike_cases()[::3]:
            for teller in matter.tellers():
                word = self.assert_word(matter, assumed, teller, len(matter.tellers()))
                self.assertEqual(self.assert_word(matter, assumed, teller, len(matter) + 7), word)

    def test_the_assumptions(self):
        self.assertEqual([self.assert_word(EXAMPLE, [(0, 1, "same")], teller, 2) for teller in ("ann", "bob", "eve")],
                         ["cannot", "must", "must"])
        self.assertEqual(self.assert_word(EXAMPLE, [(0, 1, "same")], "ann", 1), "none")
        self.assertEqual(self.assert_word(EXAMPLE, [(0, 1, "other"), (0, 1, "other")], "ann", 1), "must")

    def test_one_of_several_sayings_is_enough(self):
        matter = Matter(3, [("ann", 0, 1, "same"), ("ann", 1, 2, "same"), ("ann", 0, 2, "other"), ("bob", 0, 1, "same")])
        self.assertEqual([self.assert_word(matter, [], teller, 1) for teller in ("ann", "bob")], ["must", "cannot"])


class Blamed(unittest.TestCase):
    def told(self, matter, assumed):
        lots = {frozenset(wrong_ones(matter, truth)) for truth in obeying(matter, assumed)}
        return sorted(tuple(sorted(lot)) for lot in lots if not any(other < lot for other in lots))

    def test_the_example(self):
        self.assertEqual(blamed(EXAMPLE, []), [("ann",), ("bob", "eve")])

    def test_against_all_truths(self):
        longest = 0
        for matter, assumed in small_cases() + alike_cases():
            found = blamed(matter, assumed)
            self.assertIs(type(found), list)
            self.assertTrue(all(type(lot) is tuple for lot in found))
            self.assertEqual(found, self.told(matter, assumed))
            longest = max(longest, len(found))
        self.assertGreater(longest, 3)

    def test_no_wrong_teller(self):
        alike = Matter(2, [("ann", 0, 1, "other"), ("bob", 0, 1, "other")])
        for matter, assumed in ((Matter(1, []), []), (Matter(8, []), [(0, 7, "other")]), (alike, [(0, 1, "other")])):
            self.assertEqual(blamed(matter, assumed), [()])
        matter = Matter(3, [("ann", 0, 1, "same"), ("bob", 1, 2, "other")])
        self.assertEqual([blamed(matter, []), blamed(matter, [(0, 2, "same")])], [[()], [("ann",), ("bob",)]])

    def test_names_that_begin_alike(self):
        matter = Matter(2, [(teller, 0, 1, word) for teller, word in
                            (("ab", "same"), ("a", "same"), ("abc", "other"), ("b", "other"), ("aa", "same"))])
        self.assertEqual(blamed(matter, []), [("a", "aa", "ab"), ("abc", "b")])
        matter = Matter(3, [("ab", 0, 1, "same"), ("a", 1, 2, "same"), ("abc", 0, 2, "other")])
        self.assertEqual(blamed(matter, []), [("a",), ("ab",), ("abc",)])

    def test_a_lot_that_is_not_the_smallest_number(self):
        """Least is: none of fewer among these; not: no other lot with fewer."""
        matter = Matter(2, [("ann", 0, 1, "same")] + [(teller, 0, 1, "other") for teller in "bcdefgh"])
        self.assertEqual(blamed(matter, []), [("ann",), tuple("bcdefgh")])

    def test_a_lot_of_all(self):
        matter = Matter(2, [(teller, 0, 1, word) for teller in "ab" for word in WORDS])
        self.assertEqual(blamed(matter, []), [("a", "b")])
        self.assertEqual(blamed(Matter(2, [("z", 0, 1, "same")]), [(0, 1, "other")]), [("z",)])

    def test_more_tellers_wrong_than_fit_elsewhere(self):
        matter = Matter(2, [(teller, 0, 1, "same") for teller in "abcdefghijklmnop"])
        self.assertEqual([blamed(matter, []), blamed(matter, [(0, 1, "other")])], [[()], [tuple("abcdefghijklmnop")]])

    def test_a_new_list_with_each_call(self):
        one, two = blamed(EXAMPLE, []), blamed(EXAMPLE, [])
        self.assertIsNot(one, two)
        one.append(())
        self.assertEqual(blamed(EXAMPLE, []), two)


class Hangs(unittest.TestCase):
    def told(self, matter, assumed, first, second, most, by):
        word = word_of_all(matter, told_fitting(matter, assumed, most, by), first, second)
        if word not in WORDS:
            return ()
        found = []
        for teller in sorted({saying[0] for saying in matter.sayings()}):
            left = Matter(matter.records(), [saying for saying in matter.sayings() if saying[0] != teller])
            if word_of_all(left, told_fitting(left, assumed, most, by), first, second) != word:
                found.append(teller)
        return tuple(found)

    def test_the_example(self):
        self.assertEqual(
            [hangs(EXAMPLE, [], 0, 1, 1), hangs(EXAMPLE, [], 0, 1, 2), hangs(EXAMPLE, [(0, 1, "other")], 0, 1, 1)],
            [("bob", "eve"), (), ()])

    def test_against_all_truths(self):
        lengths = set()
        for seed, (matter, assumed) in enumerate(small_cases()[::2] + alike_cases()):
            for by in WAYS_TO_COUNT:
                many = told_least(matter, assumed, by)
                chosen = pairs(matter.records())
                for first, second in Random(seed).sample(chosen, min(4, len(chosen))):
                    for most in sorted({max(0, many - 1), many, many + 1}):
                        found = hangs(matter, assumed, first, second, most, by=by)
                        self.assertIs(type(found), tuple)
                        self.assertEqual(found, self.told(matter, assumed, first, second, most, by))
                        lengths.add(len(found))
        self.assertLessEqual({0, 1, 2, 3}, lengths)

    def test_by_the_word_without_each_teller(self):
        for matter, assumed in alike_cases()[::2]:
            for by in WAYS_TO_COUNT:
                most = told_least(matter, assumed, by)
                for first, second in pairs(matter.records()):
                    word = pair_word(matter, assumed, first, second, most, by=by)[0]
                    found = hangs(matter, assumed, first, second, most, by=by)
                    for teller in matter.tellers():
                        left = Matter(matter.records(), [saying for saying in matter.sayings() if saying[0] != teller])
                        other = pair_word(left, assumed, first, second, most, by=by)[0]
                        self.assertEqual(teller in found, word in WORDS and other != word)

    def test_a_pair_that_is_not_sure(self):
        matter = Matter(3, [("ann", 0, 1, "same"), ("bob", 0, 1, "other")])
        for first, second in pairs(3):
            self.assertEqual(pair_word(matter, [], first, second, 0)[0], "none")
            self.assertEqual(pair_word(matter, [], first, second, 1)[0], "open")
            for most in (0, 1, 2, 9):
                for by in WAYS_TO_COUNT:
                    self.assertEqual(hangs(matter, [], first, second, most, by=by), ())

    def test_what_the_assumptions_decide(self):
        for matter, assumed in small_cases()[::4] + [(EXAMPLE, [(0, 1, "same")]), (EXAMPLE, [(0, 1, "other")])]:
            decided = [pair for pair in pairs(matter.records())
                       if word_of_all(matter, obeying(matter, assumed), *pair) in WORDS]
            for (first, second), by in [(pair, by) for pair in decided for by in WAYS_TO_COUNT]:
                for most in (0, 1, 2, 20):
                    self.assertEqual(hangs(matter, assumed, first, second, most, by=by), ())

    def test_one_teller_says_all(self):
        matter = Matter(3, [("ann", 0, 1, "same"), ("ann", 1, 2, "other"), ("ann", 0, 1, "same")])
        for first, second in pairs(3):
            self.assertEqual(hangs(matter, [], first, second, 0), ("ann",))
            self.assertEqual(hangs(matter, [], first, second, 0, by="tellers"), ("ann",))
            self.assertEqual(hangs(matter, [], first, second, 1, by="tellers"), ())
        self.assertEqual([hangs(matter, [], 0, 1, 1), hangs(matter, [], 0, 2, 1)], [("ann",), ()])
        self.assertEqual([hangs(matter, [(0, 1, "same")], 0, 1, 0), hangs(matter, [(0, 1, "same")], 0, 2, 0)], [(), ("ann",)])

    def test_nobody_says_anything(self):
        self.assertEqual([hangs(Matter(2, []), [], 0, 1, 0), hangs(Matter(2, []), [(0, 1, "same")], 0, 1, 0)], [(), ()])

    def test_both_ways_to_count(self):
        matter = Matter(2, [("ann", 0, 1, "same"), ("ann", 0, 1, "same"), ("bob", 0, 1, "other")])
        self.assertEqual([hangs(matter, [], 0, 1, 1), hangs(matter, [], 0, 1, 1, by="sayings")], [("ann",)] * 2)
        self.assertEqual(hangs(matter, [], 0, 1, 1, by="tellers"), ())

    def test_it_may_hang_on_none_of_many(self):
        matter = Matter(2, [(teller, 0, 1, "same") for teller in ("a", "b", "c")])
        self.assertEqual([hangs(matter, [], 0, 1, most) for most in range(4)], [(), (), ("a", "b", "c"), ()])


class Calls(unittest.TestCase):
    def test_names(self):
        told = [(teller_word, ["matter", "assumed", "teller", "most"]), (blamed, ["matter", "assumed"]),
                (hangs, ["matter", "assumed", "first", "second", "most", "by"])]
        for call, names in told:
            self.assertEqual(list(signature(call).parameters), names)
            self.assertEqual([call.__module__, vars(module)[call.__name__]], ["whoseword.tellers", call])
        parameter = signature(hangs).parameters["by"]
        self.assertEqual([parameter.kind, parameter.default], [parameter.KEYWORD_ONLY, "sayings"])

    def test_by_name(self):
        self.assertEqual(teller_word(most=1, teller="ann", assumed=[], matter=EXAMPLE), ("must", (1,), None))
        self.assertEqual(blamed(assumed=[], matter=EXAMPLE), [("ann",), ("bob", "eve")])
        self.assertEqual(hangs(by="tellers", most=1, second=1, first=0, assumed=[], matter=EXAMPLE), ("bob", "eve"))
        with self.assertRaises(TypeError):
            hangs(EXAMPLE, [], 0, 1, 1, "tellers")

    def test_nothing_is_changed_and_results_are_equal(self):
        for seed in range(10):
            matter, assumed = random_matter(seed, 5, 9), random_assumed(seed, 5, seed % 4)
            before = Matter(5, matter.sayings()), deepcopy(assumed)
            for call, rest in ((teller_word, ("ann", 2)), (blamed, ()), (hangs, (0, 3, 2))):
                self.assertEqual(call(matter, assumed, *rest), call(before[0], before[1], *rest))
            self.assertEqual((matter, assumed), before)

    def test_each_pair_of_tellers_once(self):
        for matter, assumed in alike_cases():
            found = blamed(matter, assumed)
            self.assertEqual(found, sorted(set(found)))
            self.assertFalse(any(set(one) <= set(two) or set(two) <= set(one) for one, two in combinations(found, 2)))


if __name__ == "__main__":
    unittest.main()
