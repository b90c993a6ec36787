"""Matters that are turned into each other: points 3 and 8, and the interface, stage 4."""

import unittest
from inspect import signature
from itertools import product
from random import Random

from tests.reference import is_a_ring, random_matter
from tests.values import WORDS, pairs, truths
from whoseword.errors import Unlike
from whoseword.matters import Matter
from whoseword.rings import is_odd, is_ring
from whoseword.truths import is_truth
from whoseword.turned import turned


def turn(matter, lot, teller="zoe"):
    """The matter turned by a lot, by other tellers."""
    return Matter(matter.records(), [
        (teller, first, second, WORDS[(word == "other") ^ (first in lot) ^ (second in lot)])
        for _, first, second, word in matter.sayings()
    ])


def with_word_exchanged(matter, number):
    sayings = matter.sayings()
    teller, first, second, word = sayings[number]
    sayings[number] = (teller, first, second, WORDS[word == "same"])
    return Matter(matter.records(), sayings)


def words(matter):
    return [saying[3] for saying in matter.sayings()]


def others(matter, ring):
    return [matter.sayings()[number][3] for number in ring[1]].count("other")


class Document(unittest.TestCase):
    def test_the_example(self):
        one = Matter(3, [("ann", 0, 1, "same"), ("bob", 1, 2, "other"), ("ann", 0, 1, "other")])
        self.assertEqual(
            turned(one, Matter(3, [("eve", 0, 1, "other"), ("eve", 1, 2, "same"), ("bob", 0, 1, "same")])),
            ("yes", (1,)))
        self.assertEqual(
            turned(one, Matter(3, [("ann", 0, 1, "same"), ("bob", 1, 2, "other"), ("ann", 0, 1, "same")]))[0], "no")


class Turned(unittest.TestCase):
    def assert_shown(self, matter, other):
        """What turned returns shows what it says; returns its word."""
        found = turned(matter, other)
        self.assertEqual([type(found), len(found)], [tuple, 2])
        word, shown = found
        if word == "yes":
            # A lot has the form of a truth: ascending records without record 0.
            self.assertIs(is_truth(matter, shown), True)
            self.assertEqual(words(turn(matter, shown)), words(other))
        else:
            self.assertEqual(word, "no")
            self.assertEqual([is_ring(matter, shown), is_ring(other, shown)], [True, True])
            self.assertTrue(is_a_ring(matter, shown))
            self.assertEqual(is_odd(matter, shown) + is_odd(other, shown), 1)
            self.assertEqual((others(matter, shown) + others(other, shown)) % 2, 1)
        return word

    def assert_as_told(self, matter, other):
        some = any(words(turn(matter, lot)) == words(other) for lot in truths(matter.records()))
        self.assertEqual(self.assert_shown(matter, other), "yes" if some else "no")

    def test_turned_by_each_lot(self):
        for seed in range(30):
            matter = random_matter(seed, 1 + seed % 6, seed % 9)
            for lot in truths(matter.records()):
                self.assertEqual(self.assert_shown(matter, turn(matter, lot)), "yes")

    def test_a_lot_with_record_0_is_one_without_it(self):
        for seed in range(30):
            matter = random_matter(seed, 5, 8)
            for lot in ((0,), (0, 2), (0, 1, 2, 3, 4), (0, 3, 4)):
                self.assertEqual(self.assert_shown(matter, turn(matter, lot)), "yes")

    def test_great_matters_turned(self):
        for seed in range(80):
            chance = Random(seed)
            matter = random_matter(seed, 2 + seed % 23, seed % 41)
            lot = [record for record in range(1, matter.records()) if chance.random() < 0.5]
            self.assertEqual(self.assert_shown(matter, turn(matter, lot)), "yes")

    def test_one_word_exchanged_in_what_is_turned(self):
        for seed in range(40):
            matter = random_matter(seed, 2 + seed % 6, 1 + seed % 9)
            for number in range(len(matter)):
                self.assert_as_told(matter, with_word_exchanged(turn(matter, (1,)), number))

    def test_one_word_exchanged_in_great_matters(self):
        found = []
        for seed in range(40):
            matter = random_matter(seed, 20, 40)
            other = turn(matter, (1, 4, 5, 17))
            found.extend(self.assert_shown(matter, with_word_exchanged(other, number)) for number in range(0, 40, 3))
        self.assertEqual(sorted(set(found)), ["no", "yes"])

    def test_any_words_against_all_lots(self):
        places = [(0, 1), (1, 2), (0, 2), (0, 1), (2, 3)]
        matters = [Matter(4, [("ann", *pair, word) for pair, word in zip(places, row)])
                   for row in product(WORDS, repeat=5)]
        for matter in matters:
            for other in matters:
                self.assert_as_told(matter, other)

    def test_both_are_odd_alike(self):
        odd = Matter(3, [("ann", first, second, "other") for first, second in pairs(3)])
        other = Matter(3, [("ann", 0, 1, "same"), ("ann", 0, 2, "same"), ("ann", 1, 2, "other")])
        self.assertEqual(self.assert_shown(odd, other), "yes")
        self.assertEqual(turned(odd, odd), ("yes", ()))

    def test_a_matter_and_itself(self):
        for seed in range(20):
            matter = random_matter(seed, 4, 12)
            self.assertEqual(self.assert_shown(matter, matter), "yes")

    def test_the_tellers_do_not_count(self):
        sayings = [("ann", 0, 1, "same"), ("bob", 1, 2, "other"), ("ann", 0, 2, "same")]
        for tellers in (("a", "b", "c"), ("zoe", "zoe", "zoe"), ("ann", "ann", "bob")):
            other = Matter(3, [(teller,) + saying[1:] for teller, saying in zip(tellers, sayings)])
            self.assertEqual(self.assert_shown(Matter(3, sayings), other), "yes")
            self.assertEqual(self.assert_shown(Matter(3, sayings), with_word_exchanged(other, 1)), "no")

    def test_two_sayings_about_one_pair(self):
        for row in product(WORDS, repeat=4):
            one = Matter(2, [("ann", 0, 1, row[0]), ("bob", 0, 1, row[1])])
            other = Matter(2, [("ann", 0, 1, row[2]), ("bob", 0, 1, row[3])])
            self.assertEqual(self.assert_shown(one, other), "yes" if row.count("other") % 2 == 0 else "no")

    def test_no_sayings(self):
        for records in range(1, 25):
            self.assertEqual(self.assert_shown(Matter(records, []), Matter(records, [])), "yes")

    def test_pieces_turn_alone(self):
        one = Matter(6, [("ann", 0, 1, "same"), ("ann", 2, 3, "same"), ("ann", 4, 5, "same")])
        for row in product(WORDS, repeat=3):
            other = Matter(6, [("ann", 2 * at, 2 * at + 1, word) for at, word in enumerate(row)])
            self.assertEqual(self.assert_shown(one, other), "yes")


class Refused(unittest.TestCase):
    def assert_unlike(self, one, other, place):
        for matter, second in ((one, other), (other, one)):
            with self.assertRaises(Unlike) as caught:
                turned(matter, second)
            self.assertEqual(caught.exception.place, place)

    def test_different_numbers_of_records(self):
        for records in range(1, 24):
            self.assert_unlike(Matter(records, []), Matter(records + 1, []), None)
        self.assert_unlike(Matter(24, []), Matter(1, []), None)

    def test_records_ahead_of_a_place(self):
        saying = ("ann", 0, 1, "same")
        self.assert_unlike(Matter(3, [saying]), Matter(4, [("ann", 0, 2, "same")]), None)
        self.assert_unlike(Matter(3, [saying]), Matter(4, []), None)
        self.assert_unlike(Matter(3, [saying]), Matter(4, [saying]), None)

    def test_the_first_place_where_the_records_differ(self):
        sayings = [("ann", 0, 1, "same"), ("ann", 1, 2, "same"), ("ann", 0, 3, "other"), ("bob", 0, 1, "same")]
        for place in range(4):
            for pair in pairs(4):
                changed = list(sayings)
                changed[place] = ("ann", *pair, "same")
                if pair != sayings[place][1:3]:
                    self.assert_unlike(Matter(4, sayings), Matter(4, changed), place)
                    self.assert_unlike(Matter(4, sayings), Matter(4, changed[:place + 1]), place)
                    later = [("ann", 2, 3, "same")] * (3 - place)
                    self.assert_unlike(Matter(4, sayings), Matter(4, changed[:place + 1] + later), place)

    def test_only_one_record_differs(self):
        one = Matter(3, [("ann", 0, 2, "same")])
        self.assert_unlike(one, Matter(3, [("ann", 1, 2, "same")]), 0)
        self.assert_unlike(one, Matter(3, [("ann", 0, 1, "same")]), 0)

    def test_only_one_has_a_saying_with_that_number(self):
        sayings = [("ann", 0, 1, "same"), ("ann", 1, 2, "same"), ("ann", 0, 2, "other")]
        for many in range(3):
            for more in range(many + 1, 4):
                self.assert_unlike(Matter(3, sayings[:many]), Matter(3, sayings[:more]), many)

    def test_words_that_differ_are_no_reason(self):
        one = Matter(3, [("ann", 0, 1, "same"), ("ann", 0, 1, "same"), ("ann", 0, 2, "same")])
        other = Matter(3, [("ann", 0, 1, "same"), ("ann", 0, 1, "other"), ("ann", 0, 1, "same")])
        self.assert_unlike(one, other, 2)

    def test_a_place_ahead_of_different_lengths(self):
        one = Matter(3, [("ann", 0, 1, "same"), ("ann", 0, 1, "same"), ("ann", 0, 2, "same")])
        self.assert_unlike(one, Matter(3, [("ann", 0, 2, "same")]), 0)
        self.assert_unlike(one, Matter(3, [("ann", 0, 1, "same"), ("ann", 1, 2, "same")]), 1)


class Calls(unittest.TestCase):
    def test_names(self):
        one = Matter(3, [("ann", 0, 1, "same")])
        other = Matter(3, [("bob", 0, 1, "other")])
        self.assertEqual(list(signature(turned).parameters), ["matter", "other"])
        self.assertEqual(turned(other=other, matter=one), turned(one, other))
        self.assertEqual(turned.__module__, "whoseword.turned")

    def test_nothing_is_changed_and_results_are_equal(self):
        for seed in range(20):
            one = random_matter(seed, 4, 9)
            other = with_word_exchanged(turn(one, (1, 3)), seed % 9)
            copies = Matter(4, one.sayings()), Matter(4, other.sayings())
            self.assertEqual(turned(one, other), turned(*copies))
            self.assertEqual((one, other), copies)


if __name__ == "__main__":
    unittest.main()
