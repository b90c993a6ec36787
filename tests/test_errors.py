"""The errors: the interface, stage 1, and the paragraph about WordError."""

import unittest

from tests.values import many_values, nested
from whoseword import errors
from whoseword.matters import Matter

SHOWN = [
    (errors.BadMatter, "place"),
    (errors.Unlike, "place"),
    (errors.NotBalanced, "ring"),
    (errors.NoFit, "most"),
    (errors.BadSaying, "saying"),
    (errors.NoSaying, "number"),
    (errors.Contradicts, "pair"),
    (errors.TooMuch, "limit"),
]
ALL = [error for error, _ in SHOWN] + [errors.NothingDone]


class Family(unittest.TestCase):
    def test_the_base_class_is_a_value_error(self):
        self.assertEqual(errors.WordError.__bases__, (ValueError,))

    def test_each_is_a_direct_subclass(self):
        for error in ALL:
            self.assertEqual(error.__bases__, (errors.WordError,), error)

    def test_none_is_a_subclass_of_another(self):
        for error in ALL:
            for other in ALL:
                self.assertEqual(issubclass(error, other), error is other, (error, other))

    def test_all_are_defined_in_errors(self):
        for error in ALL + [errors.WordError]:
            self.assertEqual(error.__module__, "whoseword.errors")
            self.assertIs(getattr(errors, error.__name__), error)

    def test_there_are_no_others(self):
        found = [value for value in vars(errors).values() if isinstance(value, type)]
        self.assertEqual(sorted(error.__name__ for error in found),
                         sorted(error.__name__ for error in ALL + [errors.WordError]))


class Attributes(unittest.TestCase):
    def test_the_attribute_is_what_was_passed(self):
        values = many_values() + [Matter(2, []), nested(50, 10 ** 5000), (0, (1, 2, 0)), (0, 1, "same")]
        for error, name in SHOWN:
            for value in values:
                by_place = error(value)
                by_name = error(**{name: value})
                self.assertIs(getattr(by_place, name), value)
                self.assertIs(getattr(by_name, name), value)
                self.assertEqual([vars(by_place), vars(by_name)], [{name: value}, {name: value}])

    def test_the_attribute_is_there_when_the_error_is_caught(self):
        for error, name in SHOWN:
            with self.assertRaises(errors.WordError) as caught:
                raise error((1, [2]))
            self.assertIs(type(caught.exception), error)
            self.assertEqual(getattr(caught.exception, name), (1, [2]))

    def test_each_takes_just_the_one_argument(self):
        for error, name in SHOWN:
            with self.assertRaises(TypeError):
                error()
            with self.assertRaises(TypeError):
                error(1, 2)
            with self.assertRaises(TypeError):
                error(**{name + "s": 1})

    def test_two_errors_do_not_share_what_was_passed(self):
        for error, name in SHOWN:
            one, two = error(1), error(2)
            self.assertEqual([getattr(one, name), getattr(two, name)], [1, 2])

    def test_nothing_done_takes_none(self):
        self.assertEqual(vars(errors.NothingDone()), {})
        with self.assertRaises(TypeError):
            errors.NothingDone(1)
        with self.assertRaises(TypeError):
            errors.NothingDone(None)
        with self.assertRaises(TypeError):
            errors.NothingDone(place=None)
        with self.assertRaises(errors.NothingDone):
            raise errors.NothingDone()


if __name__ == "__main__":
    unittest.main()
