"""Matters: points 3 and 4, and the interface, stage 1."""

import unittest
from copy import deepcopy

from tests.values import many_values, nested
from whoseword.errors import BadMatter
from whoseword.matters import Matter

GOOD = ("ann", 0, 1, "same")
SAYINGS = [("ann", 0, 1, "same"), ("bob", 1, 2, "other"), ("ann", 0, 2, "same")]


class Cases(unittest.TestCase):
    def place_of(self, records, sayings):
        with self.assertRaises(BadMatter) as caught:
            Matter(records, sayings)
        return caught.exception.place

    def assert_no_saying(self, thing, records=3):
        """The thing is no saying, whatever stands before and behind it."""
        self.assertEqual(self.place_of(records, [thing]), 0, thing)
        self.assertEqual(self.place_of(records, [GOOD, GOOD, thing, GOOD]), 2, thing)
        self.assertEqual(self.place_of(records, [GOOD, thing, thing, None]), 1, thing)

    def assert_saying(self, thing, records=3):
        self.assertEqual(Matter(records, [thing]).sayings(), [thing])


class Document(Cases):
    def test_the_example(self):
        matter = Matter(3, [("ann", 0, 1, "same"), ("bob", 1, 2, "other"), ("ann", 0, 2, "same")])
        self.assertEqual([len(matter), matter.records(), matter.tellers(), matter.sayings()[1]],
                         [3, 3, ("ann", "bob"), ("bob", 1, 2, "other")])

    def test_the_example_of_a_bad_one(self):
        self.assertEqual(self.place_of(2, [("ann", 0, 1, "same"), ("bob", 1, 0, "same")]), 1)


class Accepted(Cases):
    def test_each_number_of_records(self):
        for records in range(1, 25):
            self.assertEqual(Matter(records, []).records(), records)

    def test_each_number_of_sayings(self):
        for many in range(41):
            matter = Matter(2, [GOOD] * many)
            self.assertEqual([len(matter), matter.sayings()], [many, [GOOD] * many])

    def test_the_first_and_the_last_record(self):
        self.assert_saying(("ann", 0, 23, "other"), records=24)
        self.assert_saying(("ann", 22, 23, "other"), records=24)
        self.assert_saying(("ann", 0, 1, "other"), records=2)

    def test_tellers_of_each_length_and_letter(self):
        for many in range(1, 9):
            self.assert_saying(("z" * many, 0, 1, "same"))
        for letter in "abcdefghijklmnopqrstuvwxyz":
            self.assert_saying((letter, 0, 1, "same"))
        self.assert_saying(("qwertyui", 0, 1, "other"))

    def test_both_words(self):
        self.assert_saying(("ann", 0, 1, "same"))
        self.assert_saying(("ann", 0, 1, "other"))


class BadRecords(Cases):
    def test_no_integer_from_1_to_24(self):
        for records in many_values():
            if records is True or records not in (1, 24):
                self.assertIsNone(self.place_of(records, []), records)
        for records in (True, False, None, "1", "", 0, 25, -1, 100, 1.0, (1,), [1], {1: 1}, nested(50, 1)):
            self.assertIsNone(self.place_of(records, []), records)

    def test_ahead_of_a_bad_saying(self):
        for records in (0, 25, True, None, "3"):
            self.assertIsNone(self.place_of(records, [None]))
            self.assertIsNone(self.place_of(records, [GOOD, ("ann", 1, 1, "same")]))

    def test_records_and_sayings_both_bad(self):
        self.assertIsNone(self.place_of(None, None))


class BadLists(Cases):
    def test_no_list(self):
        for sayings in many_values() + [(GOOD,), {0: GOOD}, "same", Matter(3, [GOOD])]:
            if not isinstance(sayings, list):
                self.assertIsNone(self.place_of(3, sayings), sayings)

    def test_more_than_40_things(self):
        for many in (41, 42, 100):
            self.assertIsNone(self.place_of(3, [GOOD] * many))

    def test_ahead_of_a_bad_saying(self):
        self.assertIsNone(self.place_of(3, [None] * 41))
        self.assertIsNone(self.place_of(3, [GOOD] * 40 + [None]))
        self.assertIsNone(self.place_of(3, (None,)))

    def test_40_things_of_which_one_is_bad(self):
        for place in (0, 1, 20, 38, 39):
            sayings = [GOOD] * 40
            sayings[place] = None
            self.assertEqual(self.place_of(3, sayings), place)


class BadSayings(Cases):
    def test_no_tuple(self):
        for thing in many_values() + [list(GOOD), Matter(3, [GOOD]), nested(50, GOOD)]:
            if thing != GOOD:
                self.assert_no_saying(thing)

    def test_another_length(self):
        for thing in ((), GOOD[:1], GOOD[:2], GOOD[:3], GOOD + ("same",), GOOD + GOOD, (GOOD,)):
            self.assert_no_saying(thing)

    def test_bad_tellers(self):
        bad = ["", "a" * 9, "a" * 100, "Ann", "anN", "A", "Z", "ann ", " ann", "a n", "a1", "1", "a_", "a-b", "`", "{",
               "\u00e9", "a\u00e9", "\u00aa", "ann\n", "\u0430nn", "\uff41", "\u00df", "\u0131"]
        for teller in bad:
            self.assert_no_saying((teller, 0, 1, "same"))

    def test_a_teller_that_is_no_string(self):
        for teller in many_values() + [("a",), ["a"], {"a": "a"}, b"ann", Matter(3, [])]:
            if not isinstance(teller, str):
                self.assert_no_saying((teller, 0, 1, "same"))

    def test_a_record_that_is_no_integer(self):
        for record in many_values() + [1.0, b"1", Matter(3, [])]:
            if isinstance(record, bool) or not isinstance(record, int):
                self.assert_no_saying(("ann", record, 2, "same"))
                self.assert_no_saying(("ann", 0, record, "same"))
                self.assert_no_saying(("ann", record, record, "same"))

    def test_a_record_that_is_out_of_the_range(self):
        for first, second in ((-1, 1), (-1, 0), (-2, -1), (0, 3), (2, 3), (3, 4), (0, 10 ** 40), (-10 ** 40, 1)):
            self.assert_no_saying(("ann", first, second, "same"))
        for records in range(1, 24):
            self.assertEqual(self.place_of(records, [("ann", 0, records, "same")]), 0)

    def test_one_record_has_no_saying(self):
        self.assertEqual(self.place_of(1, [("ann", 0, 0, "same")]), 0)
        self.assertEqual(self.place_of(1, [GOOD]), 0)

    def test_first_not_less_than_second(self):
        for first, second in ((0, 0), (1, 1), (2, 2), (1, 0), (2, 0), (2, 1)):
            self.assert_no_saying(("ann", first, second, "same"))

    def test_another_word(self):
        for word in many_values() + ["Same", "OTHER", "same ", "sam", "others", "open", "sameother",
                                     ("same",), ["same"], ["other"], {"same": 1}, b"same", nested(50, "same")]:
            if word not in ("same", "other"):
                self.assert_no_saying(("ann", 0, 1, word))

    def test_things_in_another_order(self):
        for thing in ((0, 1, "ann", "same"), ("same", 0, 1, "ann"), ("ann", "same", 0, 1)):
            self.assert_no_saying(thing)


class Kept(Cases):
    def test_what_is_handed_in_stays_as_it_was(self):
        for sayings in ([], [GOOD], list(SAYINGS)):
            before = deepcopy(sayings)
            Matter(3, sayings).tellers()
            self.assertEqual(sayings, before)
        bad = [GOOD, [1, {"a": 2}], nested(49)]
        before = deepcopy(bad)
        self.assertEqual(self.place_of(3, bad), 1)
        self.assertEqual(bad, before)

    def test_it_may_be_changed_afterwards(self):
        sayings = list(SAYINGS)
        matter = Matter(3, sayings)
        sayings.append(("eve", 0, 1, "other"))
        sayings[0] = None
        self.assertEqual([len(matter), matter.sayings(), matter.tellers()], [3, SAYINGS, ("ann", "bob")])

    def test_sayings_is_a_new_list_with_each_call(self):
        matter = Matter(3, SAYINGS)
        one, two = matter.sayings(), matter.sayings()
        self.assertEqual(one, two)
        self.assertIsNot(one, two)
        self.assertIsNot(one, SAYINGS)
        one.clear()
        two[0] = None
        self.assertEqual([len(matter), matter.sayings(), matter.tellers()], [3, SAYINGS, ("ann", "bob")])

    def test_equal_sayings_count_each(self):
        matter = Matter(2, [GOOD, GOOD, GOOD])
        self.assertEqual([len(matter), matter.sayings(), matter.tellers()], [3, [GOOD] * 3, ("ann",)])

    def test_order_is_kept(self):
        self.assertEqual(Matter(3, SAYINGS[::-1]).sayings(), SAYINGS[::-1])

    def test_by_name_and_by_position(self):
        self.assertEqual(Matter(records=3, sayings=SAYINGS), Matter(3, SAYINGS))
        self.assertEqual(Matter(sayings=SAYINGS, records=3).sayings(), SAYINGS)


class Tellers(Cases):
    def tellers(self, names):
        return Matter(2, [(name, 0, 1, "same") for name in names]).tellers()

    def test_none(self):
        self.assertEqual(Matter(3, []).tellers(), ())

    def test_ascending_each_once(self):
        self.assertEqual(self.tellers(["eve", "bob", "eve", "ann", "bob"]), ("ann", "bob", "eve"))
        self.assertEqual(self.tellers(["b", "ab", "a", "aa", "z", "ba"]), ("a", "aa", "ab", "b", "ba", "z"))

    def test_forty_tellers(self):
        names = [one + two for one in "abcd" for two in "abcdefghij"]
        self.assertEqual(self.tellers(names[::-1]), tuple(names))

    def test_kinds(self):
        self.assertIs(type(self.tellers(["ann"])), tuple)
        self.assertIs(type(Matter(1, []).sayings()), list)


class Equality(Cases):
    def test_equal(self):
        self.assertTrue(Matter(3, SAYINGS) == Matter(3, list(SAYINGS)))
        self.assertFalse(Matter(3, SAYINGS) != Matter(3, list(SAYINGS)))
        self.assertTrue(Matter(1, []) == Matter(1, []))

    def test_another_number_of_records(self):
        self.assertFalse(Matter(3, SAYINGS) == Matter(4, SAYINGS))
        self.assertTrue(Matter(1, []) != Matter(2, []))

    def test_other_sayings(self):
        for other in ([], SAYINGS[:2], SAYINGS + [GOOD], [("bob", 0, 1, "same")] + SAYINGS[1:],
                      [("ann", 0, 1, "other")] + SAYINGS[1:], [("ann", 0, 2, "same")] + SAYINGS[1:]):
            self.assertFalse(Matter(3, SAYINGS) == Matter(3, other))
            self.assertTrue(Matter(3, SAYINGS) != Matter(3, other))

    def test_another_order(self):
        self.assertFalse(Matter(3, SAYINGS) == Matter(3, SAYINGS[::-1]))

    def test_no_other_value_is_equal(self):
        matter = Matter(3, SAYINGS)
        for value in many_values() + [SAYINGS, tuple(SAYINGS), (3, SAYINGS), [3, SAYINGS], 3]:
            self.assertFalse(matter == value)
            self.assertFalse(value == matter)
            self.assertTrue(matter != value)


if __name__ == "__main__":
    unittest.main()
