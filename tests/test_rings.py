"""Rings: points 3 and 7, and the interface, stage 3."""

import unittest
from copy import deepcopy
from inspect import signature
from itertools import permutations, product
from random import Random

from tests.reference import all_rings, changes, is_a_ring, random_matter, wrong_in
from tests.values import WORDS, kinds, many_values, nested, pairs, truths
from whoseword.matters import Matter
from whoseword.rings import balance, is_odd, is_ring
from whoseword.truths import is_truth

MATTER = Matter(3, [("ann", 0, 1, "same"), ("bob", 1, 2, "other"), ("ann", 0, 2, "same")])
# Two pieces; sayings 0, 1, 4 about one pair; saying 6 hangs off a triangle.
WIDE = Matter(7, [("ann", 0, 1, "same"), ("bob", 0, 1, "other"), ("ann", 1, 2, "same"), ("eve", 0, 2, "other"),
                  ("ann", 0, 1, "same"), ("bob", 4, 5, "same"), ("bob", 2, 3, "other"), ("eve", 4, 5, "same")])
# Two rings with record 2 in common.
EIGHT = Matter(5, [("ann", 0, 1, "same"), ("ann", 1, 2, "same"), ("ann", 0, 2, "same"),
                   ("ann", 2, 3, "same"), ("ann", 3, 4, "same"), ("ann", 2, 4, "other")])


def chain_closed(records, word):
    """One ring of all records, whose closing saying has this word and the others "other"."""
    chain = [("ann", record, record + 1, "other") for record in range(records - 1)]
    return Matter(records, chain + [("bob", 0, records - 1, word)])


def others(matter, ring):
    return [matter.sayings()[number][3] for number in ring[1]].count("other")


class Document(unittest.TestCase):
    def test_the_first_example(self):
        self.assertEqual(
            [balance(MATTER)[0], is_ring(MATTER, (1, (1, 2, 0))), is_odd(MATTER, (1, (1, 2, 0))),
             is_ring(MATTER, (0, (0, 1)))],
            ["no", True, True, False])

    def test_the_second_example(self):
        self.assertEqual(balance(Matter(3, [("ann", 0, 1, "other"), ("bob", 1, 2, "other")])), ("yes", (1,)))


class Balance(unittest.TestCase):
    def assert_shown(self, matter):
        """What balance returns shows what it says; returns its word."""
        found = balance(matter)
        self.assertEqual([type(found), len(found)], [tuple, 2])
        word, shown = found
        if word == "yes":
            self.assertIs(is_truth(matter, shown), True)
            self.assertEqual(wrong_in(matter, shown), [])
        else:
            self.assertEqual(word, "no")
            self.assertIs(is_ring(matter, shown), True)
            self.assertIs(is_odd(matter, shown), True)
            self.assertTrue(is_a_ring(matter, shown))
            self.assertEqual(others(matter, shown) % 2, 1)
        return word

    def assert_as_told(self, matter):
        some = any(not wrong_in(matter, truth) for truth in truths(matter.records()))
        self.assertEqual(self.assert_shown(matter), "yes" if some else "no")

    def test_all_matters_of_few_sayings(self):
        for records in (2, 3):
            each = [("ann", first, second, word) for first, second in pairs(records) for word in WORDS]
            for many in range(5):
                for sayings in product(each, repeat=many):
                    self.assert_as_told(Matter(records, list(sayings)))

    def test_small_matters_against_all_truths(self):
        for seed in range(400):
            self.assert_as_told(random_matter(seed, 1 + seed % 8, seed % 11))

    def test_no_sayings(self):
        for records in range(1, 25):
            self.assertEqual(self.assert_shown(Matter(records, [])), "yes")

    def test_two_equal_sayings(self):
        for word in WORDS:
            self.assertEqual(self.assert_shown(Matter(2, [("ann", 0, 1, word)] * 2)), "yes")
            self.assertEqual(self.assert_shown(Matter(2, [("ann", 0, 1, word)] * 40)), "yes")

    def test_two_sayings_about_one_pair_that_differ(self):
        matter = Matter(4, [("ann", 1, 3, "same"), ("ann", 1, 3, "other")])
        self.assertEqual(self.assert_shown(matter), "no")
        self.assertIn(balance(matter)[1], [(1, (0, 1)), (1, (1, 0)), (3, (0, 1)), (3, (1, 0))])

    def test_rings_of_each_length(self):
        for records in range(2, 25):
            odd, even = ("other", "same") if records % 2 else ("same", "other")
            self.assertEqual(self.assert_shown(chain_closed(records, odd)), "no")
            self.assertEqual(self.assert_shown(chain_closed(records, even)), "yes")

    def test_great_matters_with_a_truth_behind_them(self):
        for seed in range(150):
            chance = Random(seed)
            records = chance.randrange(2, 25)
            truth = [record for record in range(1, records) if chance.random() < 0.5]
            kind = kinds(records, truth)
            sayings = []
            for _ in range(chance.randrange(41)):
                first, second = sorted(chance.sample(range(records), 2))
                sayings.append(("ann", first, second, WORDS[kind[first] ^ kind[second]]))
            self.assertEqual(self.assert_shown(Matter(records, sayings)), "yes")
            self.assert_one_word_exchanged(records, sayings)

    def assert_one_word_exchanged(self, records, sayings):
        """Of a matter without an odd ring: then a ring is odd if and only if it has the saying."""
        for number in range(0, len(sayings), 7):
            teller, first, second, word = sayings[number]
            others_joined = self.joined(sayings[:number] + sayings[number + 1:], first)
            changed = sayings[:number] + [(teller, first, second, WORDS[word == "same"])] + sayings[number + 1:]
            self.assertEqual(self.assert_shown(Matter(records, changed)), "no" if second in others_joined else "yes")

    def joined(self, sayings, first):
        reached = {first}
        for _ in sayings:
            for _, one, other, _ in sayings:
                if one in reached or other in reached:
                    reached |= {one, other}
        return reached

    def test_great_matters_of_any_words(self):
        words = [self.assert_shown(random_matter(seed, 2 + seed % 23, 40 - seed % 17)) for seed in range(200)]
        self.assertIn("no", words)

    def test_several_pieces_of_which_one_is_odd(self):
        odd = [("eve", 20, 21, "same"), ("eve", 21, 23, "same"), ("eve", 20, 23, "other")]
        even = [("ann", first, second, "same") for first, second in pairs(6)]
        for sayings in (odd + even, even + odd, even[:5] + odd[:2] + even[5:] + odd[2:]):
            matter = Matter(24, sayings)
            self.assertEqual(self.assert_shown(matter), "no")
            start, numbers = balance(matter)[1]
            self.assertEqual(sorted(sayings[number] for number in numbers), sorted(odd))
            self.assertIn(start, (20, 21, 23))
        self.assertEqual(self.assert_shown(Matter(24, odd[:2] + even)), "yes")

    def test_records_whose_ring_is_far_from_record_0(self):
        matter = Matter(24, [("ann", 22, 23, "other"), ("ann", 10, 22, "same"), ("bob", 10, 23, "other")])
        self.assertEqual(self.assert_shown(matter), "yes")
        truth = balance(matter)[1]
        self.assertEqual((23 in truth) + (22 in truth), 1)


class IsRing(unittest.TestCase):
    def test_all_tuples_of_numbers(self):
        for matter in (MATTER, WIDE, Matter(2, [("ann", 0, 1, "same")] * 3), Matter(1, []), Matter(3, [])):
            rings = all_rings(matter)
            for many in range(5 if len(matter) < 5 else 4):
                for numbers in product(range(-1, len(matter) + 1), repeat=many):
                    for start in range(-1, matter.records() + 1):
                        self.assertIs(is_ring(matter, (start, numbers)), (start, numbers) in rings, (start, numbers))

    def test_all_rings_of_random_matters(self):
        for seed in range(30):
            matter = random_matter(seed, 2 + seed % 5, 3 + seed % 6)
            for ring in all_rings(matter):
                self.assertIs(is_ring(matter, ring), True)
                self.assertIs(is_odd(matter, ring), others(matter, ring) % 2 == 1)

    def test_all_orders_of_the_numbers_of_a_ring(self):
        for matter in (chain_closed(5, "same"), chain_closed(6, "other")):
            rings = all_rings(matter)
            for numbers in permutations(range(len(matter))):
                for start in range(matter.records()):
                    self.assertIs(is_ring(matter, (start, numbers)), (start, numbers) in rings)

    def test_two_sayings_about_one_pair(self):
        matter = Matter(3, [("ann", 0, 2, "same"), ("bob", 0, 2, "same"), ("ann", 1, 2, "same")])
        for ring in ((0, (0, 1)), (0, (1, 0)), (2, (0, 1)), (2, (1, 0))):
            self.assertIs(is_ring(matter, ring), True)
        for value in ((1, (0, 1)), (0, (0, 2)), (2, (2, 0))):
            self.assertIs(is_ring(matter, value), False)

    def test_one_saying_or_none(self):
        for start in range(3):
            self.assertIs(is_ring(MATTER, (start, ())), False)
            for number in range(3):
                self.assertIs(is_ring(MATTER, (start, (number,))), False)

    def test_a_saying_that_comes_twice(self):
        for value in ((0, (0, 0)), (1, (0, 0)), (0, (0, 1, 2, 0, 1, 2)), (0, (0, 1, 1, 0)), (0, (0, 1, 2, 2, 2))):
            self.assertIs(is_ring(MATTER, value), False)

    def test_a_record_that_is_ended_at_twice(self):
        for value in ((2, (2, 0, 1)), (2, (3, 4, 5)), (0, (0, 1, 2)), (4, (5, 3, 4))):
            self.assertIs(is_ring(EIGHT, value), True)
        for value in ((2, (2, 0, 1, 3, 4, 5)), (0, (0, 1, 3, 4, 5, 2)), (3, (4, 5, 1, 0, 2, 3)), (2, (3, 4, 5, 1, 0, 2))):
            self.assertIs(is_ring(EIGHT, value), False)
        # Back at the start ahead of its end.
        four = Matter(2, [("ann", 0, 1, "same")] * 4)
        self.assertIs(is_ring(four, (0, (0, 1, 2, 3))), False)
        self.assertIs(is_ring(four, (0, (2, 3))), True)

    def test_a_path_that_does_not_end_at_its_start(self):
        for value in ((0, (0, 1)), (0, (2, 1)), (1, (0, 2)), (2, (1, 0))):
            self.assertIs(is_ring(MATTER, value), False)

    def test_sayings_that_do_not_follow_each_other(self):
        self.assertIs(is_ring(WIDE, (0, (0, 2, 5))), False)
        self.assertIs(is_ring(WIDE, (0, (5, 7))), False)
        self.assertIs(is_ring(WIDE, (4, (5, 7))), True)
        self.assertIs(is_ring(chain_closed(4, "same"), (0, (0, 2, 1, 3))), False)

    def test_a_start_that_is_no_record(self):
        for start in many_values() + [-1, 3, 10 ** 30, (0,), [0], MATTER, 0.0, nested(49, 0)]:
            good = type(start) is int and start == 0
            self.assertIs(is_ring(MATTER, (start, (0, 1, 2))), good, start)

    def test_true_and_false(self):
        self.assertIs(is_ring(MATTER, (False, (0, 1, 2))), False)
        self.assertIs(is_ring(MATTER, (True, (1, 2, 0))), False)
        self.assertIs(is_ring(MATTER, (0, (False, 1, 2))), False)
        self.assertIs(is_ring(MATTER, (0, (0, True, 2))), False)

    def test_things_in_place_of_a_number(self):
        for thing in many_values() + [3, -3, -2, "0", "", (0,), [0], {0: 0}, MATTER, 0.0, nested(48, 0)]:
            good = type(thing) is int and thing == 0
            self.assertIs(is_ring(MATTER, (0, (thing, 1, 2))), good, thing)

    def test_numbers_from_the_end_are_none(self):
        self.assertIs(is_ring(MATTER, (0, (-3, -2, -1))), False)
        self.assertIs(is_ring(MATTER, (0, (0, 1, -1))), False)
        self.assertIs(is_ring(MATTER, (-3, (0, 1, 2))), False)

    def test_another_kind_or_length(self):
        for value in ([0, (0, 1, 2)], (0, [0, 1, 2]), (0,), (0, (0, 1, 2), ()), ((0, (0, 1, 2)),), (0, 0, 1, 2),
                      {0: (0, 1, 2)}, (0, {0: 0, 1: 1, 2: 2}), ((0, 1, 2), 0), (0, "012"), "00", (), None, True,
                      (0, None), (None, None), [], {}, 0, "ring"):
            self.assertIs(is_ring(MATTER, value), False, value)

    def test_any_values(self):
        for value in many_values() + [nested(50, (0, (0, 1, 2))), MATTER, balance, Matter]:
            self.assertIs(is_ring(MATTER, value), False, value)
            self.assertIs(is_ring(MATTER, (0, value)), False, value)
            self.assertIs(is_ring(MATTER, (value, value)), False, value)

    def test_what_other_calls_returned(self):
        for matter in (MATTER, WIDE, EIGHT):
            word, ring = balance(matter)
            self.assertIs(is_ring(matter, ring), True)
            for value in (balance(matter), matter.sayings(), matter.sayings()[0], matter.tellers(), (ring,), ring[1]):
                self.assertIs(is_ring(matter, value), False)
            self.assertEqual(word, "no")

    def test_rings_with_parts_exchanged(self):
        things = [0, 1, 2, 3, -1, 99, True, None, "0", (0,), [0], {0: 1}, nested(50, 0)]
        for matter in (MATTER, WIDE, EIGHT, chain_closed(4, "same")):
            rings = all_rings(matter)
            ring = balance(matter)[1]
            for value in changes(ring, things):
                good = value in [one for one in rings if repr(one) == repr(value)]
                self.assertIs(is_ring(matter, value), good, value)

    def test_another_matter(self):
        self.assertIs(is_ring(Matter(2, [("ann", 0, 1, "same")] * 2), (0, (0, 1, 2))), False)
        self.assertIs(is_ring(Matter(3, MATTER.sayings()[:2]), (0, (0, 1, 2))), False)
        self.assertIs(is_ring(Matter(1, []), (0, ())), False)

    def test_the_longest_ones(self):
        matter = chain_closed(24, "same")
        numbers = tuple(range(24))
        for at in range(24):
            self.assertIs(is_ring(matter, (at, numbers[at:] + numbers[:at])), True)
            self.assertIs(is_ring(matter, (at, (numbers[at:] + numbers[:at])[::-1])), True)
            self.assertIs(is_ring(matter, ((at + 1) % 24, numbers[at:] + numbers[:at])), False)
        self.assertIs(is_ring(matter, (0, numbers * 1000)), False)


class IsOdd(unittest.TestCase):
    def test_rings_of_two(self):
        for one, other in product(WORDS, repeat=2):
            matter = Matter(2, [("ann", 0, 1, one), ("bob", 0, 1, other)])
            for ring in ((0, (0, 1)), (1, (1, 0))):
                self.assertIs(is_odd(matter, ring), one != other)

    def test_rings_of_three(self):
        for words in product(WORDS, repeat=3):
            matter = Matter(3, [("ann", 0, 1, words[0]), ("ann", 1, 2, words[1]), ("ann", 0, 2, words[2])])
            self.assertIs(is_odd(matter, (2, (2, 0, 1))), words.count("other") in (1, 3))

    def test_rings_of_many(self):
        for records in range(3, 25):
            for word in WORDS:
                matter = chain_closed(records, word)
                many = records - 1 + (word == "other")
                self.assertIs(is_odd(matter, (0, tuple(range(records)))), many % 2 == 1)

    def test_only_the_sayings_of_the_ring_count(self):
        self.assertEqual([is_odd(WIDE, (0, (0, 4))), is_odd(WIDE, (0, (0, 1))), is_odd(WIDE, (4, (5, 7)))],
                         [False, True, False])
        self.assertEqual([is_odd(EIGHT, (0, (0, 1, 2))), is_odd(EIGHT, (2, (3, 4, 5)))], [False, True])


class Calls(unittest.TestCase):
    def test_names(self):
        self.assertEqual(list(signature(balance).parameters), ["matter"])
        self.assertEqual(list(signature(is_ring).parameters), ["matter", "value"])
        self.assertEqual(list(signature(is_odd).parameters), ["matter", "ring"])
        self.assertEqual(balance(matter=MATTER), balance(MATTER))
        self.assertIs(is_ring(matter=MATTER, value=(0, (0, 1, 2))), True)
        self.assertIs(is_odd(ring=(0, (0, 1, 2)), matter=MATTER), True)

    def test_they_are_defined_here(self):
        for call in (balance, is_ring, is_odd):
            self.assertEqual(call.__module__, "whoseword.rings")

    def test_nothing_is_changed_and_results_are_equal(self):
        for seed in range(40):
            matter = random_matter(seed, 2 + seed % 20, seed)
            before = Matter(matter.records(), matter.sayings())
            self.assertEqual(balance(matter), balance(before))
            self.assertEqual(matter, before)
        value = [0, [1, {"a": [2]}]]
        before = deepcopy(value)
        self.assertEqual([is_ring(MATTER, value), is_ring(MATTER, (0, value)), value], [False, False, before])


if __name__ == "__main__":
    unittest.main()
