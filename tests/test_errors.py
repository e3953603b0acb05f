"""Point 3 and duewalk/errors.py."""

import unittest

from anyvalues import any_values
from duewalk import errors
from duewalk.errors import WalkError

WITH_VALUE = {
    "InvalidText": "row", "NoWay": "place", "BadMove": "index", "UnknownPlace": "place",
    "Unfit": "number", "BadRequest": "index",
}
WITHOUT = [
    "BadStarts", "BadStanding", "NotBack", "NotCalm", "NotKept", "TooLarge", "BadAsking", "BadRule",
    "BadLimit", "BadWay", "TooManyWalkers", "NoDeed",
]


def all_errors():
    return {name: getattr(errors, name) for name in [*WITH_VALUE, *WITHOUT]}


class ErrorClasses(unittest.TestCase):
    def test_there_are_eighteen(self):
        self.assertEqual(18, len(set(all_errors().values())))

    def test_walk_error_is_a_value_error(self):
        self.assertEqual((ValueError,), WalkError.__bases__)
        self.assertEqual(("told",), WalkError("told").args)

    def test_walk_error_is_the_only_base(self):
        for name, kind in all_errors().items():
            with self.subTest(name):
                self.assertEqual((WalkError,), kind.__bases__)
                self.assertEqual("duewalk.errors", kind.__module__)
                self.assertEqual(name, kind.__name__)

    def test_none_is_a_subclass_of_another(self):
        kinds = all_errors()
        for first, one in kinds.items():
            for second, other in kinds.items():
                self.assertEqual(first == second, issubclass(one, other), (first, second))


class ErrorValues(unittest.TestCase):
    def test_by_position_and_by_name(self):
        for name, attribute in WITH_VALUE.items():
            kind = getattr(errors, name)
            for value in any_values() + [10 ** 6000, -(10 ** 6000)]:
                with self.subTest(name):
                    self.assertIs(value, getattr(kind(value), attribute))
                    self.assertIs(value, getattr(kind(**{attribute: value}), attribute))

    def test_raised_and_caught_by_the_base(self):
        for name, attribute in WITH_VALUE.items():
            with self.assertRaises(WalkError) as caught:
                raise getattr(errors, name)("told")
            self.assertEqual("told", getattr(caught.exception, attribute))
        for name in WITHOUT:
            with self.assertRaises(WalkError) as caught:
                raise getattr(errors, name)()
            self.assertIs(getattr(errors, name), caught.exception.__class__)

    def test_values_are_needed_just_where_they_are_told(self):
        for name in WITH_VALUE:
            with self.assertRaises(TypeError):
                getattr(errors, name)()

    def test_attributes_of_one_error_are_its_own(self):
        first, second = errors.BadMove(1), errors.BadMove(2)
        self.assertEqual([1, 2], [first.index, second.index])


if __name__ == "__main__":
    unittest.main()
