"""What two records are in all truths that fit: points 2, 3 and 12, and the interface, stage 6."""

import unittest
from copy import deepcopy
from inspect import signature

from tests.reference import (
    WAYS_TO_COUNT, many_wrong, obeying, random_assumed, random_matter, small_cases, told_fitting, told_least, told_tree,
    word_of_all,
)
from tests.values import WORDS, holds, pairs, truths
from whoseword import pairs as module
from whoseword.cases import fit, is_tree
from whoseword.errors import NoFit, WordError
from whoseword.matters import Matter
from whoseword.pairs import classes, fitting, gap, pair_word
from whoseword.truths import is_truth

MATTER = Matter(4, [("ann", 0, 1, "same"), ("bob", 0, 1, "same"), ("ann", 1, 2, "other"), ("eve", 2, 3, "same")])
ODD = Matter(3, [("ann", 0, 1, "same"), ("bob", 1, 2, "other"), ("ann", 0, 2, "same")])


def can_be(matter, assumed, first, second, word):
    """Whether some truth that obeys has this word, so that the assumptions do not exclude it."""
    return any(holds(matter.records(), truth, (first, second, word)) for truth in obeying(matter, assumed))


class Document(unittest.TestCase):
    def test_the_first_example(self):
        self.assertEqual(
            [gap(MATTER, [], 0, 1), gap(MATTER, [], 0, 2, by="tellers"), fitting(MATTER, [], 0), fitting(MATTER, [], 1)],
            [(0, 2), (1, 0), [(2, 3)], [(), (2,), (2, 3)]])

    def test_the_second_example(self):
        self.assertEqual(
            [classes(MATTER, [], 1), pair_word(MATTER, [], 0, 2, 1)[0], pair_word(MATTER, [(0, 2, "other")], 0, 2, 0)],
            [[((0, 1), ()), ((2,), ()), ((3,), ())], "open", ("other", ("no", None), ("yes", (2, 3)))])


class PairWord(unittest.TestCase):
    def assert_shown(self, matter, assumed, first, second, most, by):
        """Its word is what the truths say, and both results are shown right; returns its word."""
        found = pair_word(matter, assumed, first, second, most, by=by)
        self.assertEqual([type(found), len(found)], [tuple, 3])
        self.assertEqual(found[0], word_of_all(matter, told_fitting(matter, assumed, most, by), first, second))
        for word, result in zip(WORDS, found[1:]):
            self.assert_result(matter, assumed + [(first, second, word)], most, by, result)
        return found[0]

    def assert_result(self, matter, assumed, most, by, result):
        self.assertEqual([type(result), len(result)], [tuple, 2])
        if not obeying(matter, assumed):
            self.assertEqual(result, ("no", None))
        elif result[0] == "yes":
            self.assertIs(is_truth(matter, result[1]), True)
            self.assertIn(result[1], obeying(matter, assumed))
            self.assertLessEqual(many_wrong(matter, result[1], by), most)
        else:
            self.assertEqual(result[0], "no")
            self.assertTrue(told_tree(matter, obeying(matter, assumed), most, result[1], by))
            self.assertIs(is_tree(matter, assumed, most, result[1], by=by), True)

    def test_against_all_truths(self):
        words = set()
        for matter, assumed in small_cases():
            for by in WAYS_TO_COUNT:
                many = told_least(matter, assumed, by)
                for most in sorted({0, max(0, many - 1), many, many + 1}):
                    for first, second in pairs(matter.records())[:8]:
                        words.add(self.assert_shown(matter, assumed, first, second, most, by))
        self.assertEqual(words, {"same", "other", "open", "none"})

    def test_each_word(self):
        told = [((0, 1, 0), "same"), ((0, 2, 0), "other"), ((0, 1, 1), "same"), ((0, 2, 1), "open"), ((0, 1, 2), "open"),
                ((2, 3, 0), "same"), ((1, 3, 0), "other")]
        for (first, second, most), word in told:
            self.assertEqual(self.assert_shown(MATTER, [], first, second, most, "sayings"), word)
        for first, second in pairs(3):
            self.assertEqual(self.assert_shown(ODD, [], first, second, 0, "sayings"), "none")
            self.assertEqual(self.assert_shown(ODD, [], first, second, 1, "sayings"), "open")
            self.assertEqual(self.assert_shown(ODD, [], first, second, 0, "tellers"), "none")

    def test_the_results_are_as_fit_may_return_them(self):
        for most in range(3):
            word, one, other = pair_word(MATTER, [(1, 3, "same")], 0, 2, most)
            self.assertEqual(one[0], fit(MATTER, [(1, 3, "same"), (0, 2, "same")], most)[0])
            self.assertEqual(other[0], fit(MATTER, [(1, 3, "same"), (0, 2, "other")], most)[0])
            self.assertEqual(word, {("no", "no"): "none", ("yes", "no"): "same", ("no", "yes"): "other",
                                    ("yes", "yes"): "open"}[one[0], other[0]])

    def test_what_the_assumptions_exclude(self):
        for word, excluded in (("same", 2), ("other", 1)):
            for most in (0, 1, 2, 4):
                found = pair_word(MATTER, [(0, 2, word)], 0, 2, most)
                self.assertEqual(found[excluded], ("no", None))
                self.assertIsNotNone(found[3 - excluded][1])
                self.assertEqual(self.assert_shown(MATTER, [(0, 2, word)], 0, 2, most, "sayings"), found[0])
                self.assertIn(found[0], (word, "none"))

    def test_several_assumptions_exclude_it_together(self):
        for one in WORDS:
            for two in WORDS:
                for three in WORDS:
                    assumed = [(1, 2, two), (0, 1, one), (2, 3, three)]
                    word = WORDS[(one, two, three).count("other") % 2]
                    for most in (0, 2, 4):
                        found = pair_word(MATTER, assumed, 0, 3, most)
                        self.assertEqual(found[2 if word == "same" else 1], ("no", None))
                        self.assertNotEqual(found[1 if word == "same" else 2], ("no", None))
                        self.assert_shown(MATTER, assumed, 0, 3, most, "sayings")
                        # The two alone decide nothing about record 3.
                        self.assertNotIn(("no", None), pair_word(MATTER, assumed[:2], 0, 3, most)[1:])

    def test_no_fit_and_excluded(self):
        found = pair_word(ODD, [(0, 1, "same")], 0, 1, 0)
        self.assertEqual([found[0], found[1][0], found[2]], ["none", "no", ("no", None)])
        self.assertIs(is_tree(ODD, [(0, 1, "same")], 0, found[1][1]), True)

    def test_no_sayings(self):
        self.assertEqual(self.assert_shown(Matter(2, []), [], 0, 1, 0, "sayings"), "open")
        self.assertEqual(self.assert_shown(Matter(2, []), [(0, 1, "other")], 0, 1, 0, "tellers"), "other")

    def test_both_ways_to_count(self):
        matter = Matter(2, [("ann", 0, 1, "same"), ("ann", 0, 1, "same"), ("bob", 0, 1, "other")])
        for most, by, word in ((0, "sayings", "none"), (1, "sayings", "same"), (2, "sayings", "open"),
                               (0, "tellers", "none"), (1, "tellers", "open")):
            self.assertEqual(self.assert_shown(matter, [], 0, 1, most, by), word)
        self.assertEqual(pair_word(matter, [], 0, 1, 1), pair_word(matter, [], 0, 1, 1, by="sayings"))


class Gap(unittest.TestCase):
    def told(self, matter, assumed, first, second, by):
        return tuple(
            told_least(matter, assumed + [(first, second, word)], by)
            if can_be(matter, assumed, first, second, word) else None
            for word in WORDS)

    def test_against_all_truths(self):
        for matter, assumed in small_cases():
            for by in WAYS_TO_COUNT:
                for first, second in pairs(matter.records()):
                    found = gap(matter, assumed, first, second, by=by)
                    self.assertIs(type(found), tuple)
                    self.assertEqual(found, self.told(matter, assumed, first, second, by))

    def test_what_the_assumptions_exclude(self):
        self.assertEqual(gap(MATTER, [(0, 1, "same")], 0, 1), (0, None))
        self.assertEqual(gap(MATTER, [(0, 1, "other")], 0, 1), (None, 2))
        self.assertEqual(gap(MATTER, [(0, 1, "other"), (1, 3, "other"), (0, 2, "same")], 2, 3), (2, None))
        self.assertEqual(gap(MATTER, [(0, 2, "same"), (2, 3, "other")], 0, 3, by="tellers"), (None, 2))

    def test_the_lesser_one_is_the_least_number(self):
        for matter, assumed in small_cases()[::3]:
            for first, second in pairs(matter.records())[:5]:
                for by in WAYS_TO_COUNT:
                    found = [number for number in gap(matter, assumed, first, second, by=by) if number is not None]
                    self.assertEqual(min(found), told_least(matter, assumed, by))

    def test_it_tells_the_words(self):
        for matter, assumed in small_cases()[::5]:
            for first, second in pairs(matter.records())[:4]:
                same, other = gap(matter, assumed, first, second)
                for most in range(5):
                    can = [same is not None and same <= most, other is not None and other <= most]
                    word = {(True, True): "open", (True, False): "same", (False, True): "other"}.get(tuple(can), "none")
                    self.assertEqual(pair_word(matter, assumed, first, second, most)[0], word)

    def test_no_sayings(self):
        self.assertEqual(gap(Matter(5, []), [], 1, 4), (0, 0))
        self.assertEqual(gap(Matter(5, []), [(1, 4, "other")], 1, 4, by="tellers"), (None, 0))


class Fitting(unittest.TestCase):
    def test_against_all_truths(self):
        for matter, assumed in small_cases():
            for by in WAYS_TO_COUNT:
                for most in range(told_least(matter, assumed, by) + 3):
                    found = fitting(matter, assumed, most, by=by)
                    self.assertIs(type(found), list)
                    self.assertEqual(found, told_fitting(matter, assumed, most, by))

    def test_all_truths_in_ascending_order(self):
        for records in range(1, 8):
            for most in (0, 1, 50):
                self.assertEqual(fitting(Matter(records, []), [], most), sorted(truths(records)))
        self.assertEqual(fitting(Matter(4, []), [], 0), [(), (1,), (1, 2), (1, 2, 3), (1, 3), (2,), (2, 3), (3,)])

    def test_no_truth(self):
        self.assertEqual([fitting(ODD, [], 0), fitting(ODD, [], 0, by="tellers")], [[], []])
        self.assertEqual(fitting(MATTER, [(0, 1, "other")], 1), [])

    def test_truths_of_records_of_which_nothing_is_said(self):
        matter = Matter(4, [("ann", 1, 2, "other")])
        self.assertEqual(fitting(matter, [], 0), [(1,), (1, 3), (2,), (2, 3)])
        self.assertEqual(fitting(matter, [(0, 3, "other"), (1, 3, "same")], 0), [(1, 3)])
        self.assertEqual(fitting(matter, [(1, 2, "same"), (0, 3, "same")], 1), [(), (1, 2)])

    def test_assumptions_that_decide_all(self):
        assumed = [(0, 1, "other"), (1, 2, "same"), (2, 3, "other")]
        self.assertEqual([fitting(MATTER, assumed, most) for most in (3, 4)], [[], [(1, 2)]])
        self.assertEqual([fitting(MATTER, assumed, most, by="tellers") for most in (2, 3)], [[], [(1, 2)]])

    def test_a_new_list_with_each_call(self):
        for most in (0, 1):
            for matter in (MATTER, ODD):
                one, two = fitting(matter, [], most), fitting(matter, [], most)
                self.assertIsNot(one, two)
                one.append(None)
                self.assertEqual(fitting(matter, [], most), two)

    def test_a_greater_number_lets_more_fit(self):
        for matter, assumed in small_cases()[::4]:
            for by in WAYS_TO_COUNT:
                rows = [fitting(matter, assumed, most, by=by) for most in range(8)]
                for lesser, greater in zip(rows, rows[1:]):
                    self.assertLessEqual(set(lesser), set(greater))


class Classes(unittest.TestCase):
    def told(self, matter, assumed, most, by):
        """Each class of sure records, by the words of all pairs in all truths that fit."""
        fit_in = told_fitting(matter, assumed, most, by)
        found = []
        left = list(range(matter.records()))
        while left:
            head = left[0]
            words = {record: word_of_all(matter, fit_in, head, record) for record in left[1:]}
            ones = (head,) + tuple(record for record in left[1:] if words[record] == "same")
            others = tuple(record for record in left[1:] if words[record] == "other")
            found.append((ones, others))
            left = [record for record in left if record not in ones + others]
        return found

    def assert_no_fit(self, matter, assumed, most, by):
        with self.assertRaises(NoFit) as caught:
            classes(matter, assumed, most, by=by)
        self.assertEqual(caught.exception.most, most)
        self.assertIsInstance(caught.exception, WordError)

    def test_against_all_truths(self):
        for matter, assumed in small_cases():
            for by in WAYS_TO_COUNT:
                many = told_least(matter, assumed, by)
                for most in range(many):
                    self.assert_no_fit(matter, assumed, most, by)
                for most in range(many, many + 4):
                    self.assertEqual(classes(matter, assumed, most, by=by), self.told(matter, assumed, most, by))

    def test_form(self):
        for matter, assumed in small_cases()[::2]:
            found = classes(matter, assumed, told_least(matter, assumed, "sayings"))
            self.assertIs(type(found), list)
            for row in found:
                self.assertEqual([type(row), len(row), type(row[0]), type(row[1])], [tuple, 2, tuple, tuple])
                self.assertEqual([list(part) for part in row], [sorted(part) for part in row])
                self.assertEqual(row[0][0], min(row[0] + row[1]))
            heads = [ones[0] for ones, _ in found]
            self.assertEqual(heads, sorted(heads))
            self.assertEqual(sorted(sum((ones + others for ones, others in found), ())), list(range(matter.records())))

    def test_no_fit(self):
        for most, by in ((0, "sayings"), (0, "tellers")):
            self.assert_no_fit(ODD, [], most, by)
        for most in (0, 1):
            self.assert_no_fit(MATTER, [(0, 1, "other")], most, "sayings")
        self.assertEqual(classes(MATTER, [(0, 1, "other")], 2), [((0, 2, 3), (1,))])

    def test_sure_by_the_truths_and_not_by_assumptions(self):
        self.assertEqual(classes(MATTER, [], 0), [((0, 1), (2, 3))])
        self.assertEqual(classes(MATTER, [], 2), [((0,), ()), ((1,), ()), ((2,), ()), ((3,), ())])
        self.assertEqual(classes(MATTER, [(1, 2, "other")], 1), [((0, 1), (2,)), ((3,), ())])

    def test_assumptions_and_no_sayings(self):
        matter = Matter(6, [])
        self.assertEqual(classes(matter, [(2, 5, "other"), (1, 3, "same"), (3, 4, "other")], 0),
                         [((0,), ()), ((1, 3), (4,)), ((2,), (5,))])
        self.assertEqual(classes(Matter(1, []), [], 0), [((0,), ())])

    def test_one_class_of_all(self):
        self.assertEqual(classes(MATTER, [(0, 1, "other"), (1, 2, "same"), (2, 3, "other")], 4), [((0, 3), (1, 2))])

    def test_new_lists_with_each_call(self):
        one, two = classes(MATTER, [], 1), classes(MATTER, [], 1)
        self.assertIsNot(one, two)
        one.clear()
        self.assertEqual(classes(MATTER, [], 1), two)

    def test_in_one_class_within_lesser_numbers_too(self):
        for matter, assumed in small_cases()[::2]:
            for by in WAYS_TO_COUNT:
                many = told_least(matter, assumed, by)
                before = None
                for most in range(many, many + 5):
                    found = classes(matter, assumed, most, by=by)
                    together = {pair for ones, others in found for pair in pairs(matter.records())
                                if set(pair) <= set(ones + others)}
                    if before is not None:
                        self.assertLessEqual(together, before)
                    before = together


class Calls(unittest.TestCase):
    def test_names(self):
        told = [(pair_word, ["matter", "assumed", "first", "second", "most", "by"]),
                (gap, ["matter", "assumed", "first", "second", "by"]),
                (fitting, ["matter", "assumed", "most", "by"]), (classes, ["matter", "assumed", "most", "by"])]
        for call, names in told:
            parameters = signature(call).parameters
            self.assertEqual(list(parameters), names)
            self.assertEqual([parameters["by"].kind, parameters["by"].default], [parameters["by"].KEYWORD_ONLY, "sayings"])
            self.assertEqual([call.__module__, vars(module)[call.__name__]], ["whoseword.pairs", call])

    def test_by_name(self):
        self.assertEqual(pair_word(by="tellers", most=1, second=2, first=0, assumed=[], matter=MATTER),
                         pair_word(MATTER, [], 0, 2, 1, by="tellers"))
        self.assertEqual(gap(by="tellers", second=2, first=0, assumed=[], matter=MATTER), (1, 0))
        self.assertEqual(fitting(by="sayings", most=0, assumed=[], matter=MATTER), [(2, 3)])
        self.assertEqual(classes(by="tellers", most=0, assumed=[], matter=MATTER), [((0, 1), (2, 3))])

    def test_by_is_passed_by_its_name_alone(self):
        for call in (lambda: pair_word(MATTER, [], 0, 1, 1, "tellers"), lambda: gap(MATTER, [], 0, 1, "tellers"),
                     lambda: fitting(MATTER, [], 1, "tellers"), lambda: classes(MATTER, [], 1, "tellers")):
            with self.assertRaises(TypeError):
                call()

    def test_nothing_is_changed_and_results_are_equal(self):
        for seed in range(12):
            matter = random_matter(seed, 5, 9)
            assumed = random_assumed(seed, 5, seed % 4)
            before = Matter(5, matter.sayings()), deepcopy(assumed)
            for by in WAYS_TO_COUNT:
                many = told_least(matter, assumed, by)
                for call, rest in ((pair_word, (1, 3, many)), (gap, (1, 3)), (fitting, (many,)), (classes, (many,))):
                    self.assertEqual(call(matter, assumed, *rest, by=by), call(before[0], before[1], *rest, by=by))
                if many:
                    with self.assertRaises(NoFit):
                        classes(matter, assumed, many - 1, by=by)
            self.assertEqual((matter, assumed), before)


if __name__ == "__main__":
    unittest.main()
