"""Point [4] and the interface of errors.py."""

import copy
import pickle
import unittest

from ironships import errors
from samples import NIL, Spiteful, nested

GIVEN = """InvalidFraction InvalidNumber InvalidIndex InvalidSurd InvalidHeading InvalidCourse InvalidWave InvalidIron
InvalidPiece InvalidPlace InvalidFive InvalidForce InvalidReading InvalidName InvalidWish InvalidPhrase UnknownName
NotAWorkshop HighBelowLow""".split()
INDEX = "InvalidReadings InvalidSea InvalidBox InvalidCounts InUse Broken".split()
BARE = "TooMuchIron NotAhead SameDip NoneFits NothingToUndo".split()
KEPT = [None, True, 0, -5, "", "text", [1, [2]], (), (2, 4), NIL, {"a": 1}, nested(14), Spiteful(), 10 ** 5000]


def class_of(name):
    return vars(errors)[name]


class ErrorClasses(unittest.TestCase):
    def test_the_listed_classes_and_no_others_are_defined_there(self):
        defined = [name for name, each in vars(errors).items() if isinstance(each, type)]
        self.assertEqual(sorted(defined), sorted(["CompassError"] + GIVEN + INDEX + BARE))
        for name in defined:
            self.assertEqual(class_of(name).__module__, "ironships.errors")

    def test_the_base_stands_under_value_error_alone(self):
        self.assertEqual(errors.CompassError.__bases__, (ValueError,))
        self.assertIsInstance(errors.CompassError(), ValueError)
        self.assertEqual(vars(errors.CompassError()), {})

    def test_each_other_class_stands_under_the_base_alone(self):
        for name in GIVEN + INDEX + BARE:
            with self.subTest(name):
                self.assertEqual(class_of(name).__bases__, (errors.CompassError,))

    def test_what_is_given_is_kept(self):
        for names, attribute in ((GIVEN, "given"), (INDEX, "index")):
            for name in names:
                for value in KEPT:
                    with self.subTest(name):
                        by_position = class_of(name)(value)
                        by_name = class_of(name)(**{attribute: value})
                        for error in (by_position, by_name):
                            self.assertEqual(list(vars(error)), [attribute])
                            self.assertIs(vars(error)[attribute], value)

    def test_attributes_are_needed_and_no_others_are_taken(self):
        for name in GIVEN + INDEX:
            other = "index" if name in GIVEN else "given"
            with self.subTest(name):
                with self.assertRaises(TypeError):
                    class_of(name)()
                with self.assertRaises(TypeError):
                    class_of(name)(1, 2)
                with self.assertRaises(TypeError):
                    class_of(name)(**{other: 1})

    def test_errors_without_attributes(self):
        for name in BARE:
            with self.subTest(name):
                self.assertEqual(vars(class_of(name)()), {})
                with self.assertRaises(TypeError):
                    class_of(name)(given=1)

    def test_each_is_raised_and_caught_by_its_name_and_by_the_base(self):
        for name in GIVEN + INDEX + BARE:
            with self.subTest(name):
                told = () if name in BARE else (7,)
                for caught in (class_of(name), errors.CompassError, ValueError):
                    with self.assertRaises(caught):
                        raise class_of(name)(*told)

    def test_raised_errors_can_be_copied(self):
        for name in GIVEN + INDEX:
            error = class_of(name)((2, 4))
            for twin in (copy.copy(error), pickle.loads(pickle.dumps(error))):
                self.assertEqual(vars(twin), vars(error))


if __name__ == "__main__":
    unittest.main()
