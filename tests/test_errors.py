"""Point 4 and the interface of safehelms.errors."""

import unittest

from safehelms import errors
from safehelms.errors import HelmError, UnlikeSizes
from sums import ODD, HelmCase

GIVEN = ["InvalidNumber", "InvalidFraction", "InvalidLot", "InvalidChart", "InvalidTable", "InvalidStanding",
         "InvalidController", "InvalidState", "InvalidForm", "InvalidMemory", "InvalidPlant", "InvalidLoop",
         "InvalidComes", "InvalidName", "TooMany"]
INDEX = ["InvalidRow", "InvalidPairs", "InvalidDirections", "InvalidSteps", "InvalidReadings", "InvalidRows",
         "InvalidNumbers", "InvalidProgram", "InvalidCells", "InvalidText", "InvalidWrites"]


class Classes(HelmCase):
    def test_twenty_seven_classes(self):
        self.assertEqual(len(set(GIVEN + INDEX + ["UnlikeSizes"])), 27)

    def test_each_is_defined_in_errors(self):
        for name in GIVEN + INDEX + ["UnlikeSizes", "HelmError"]:
            self.assertEqual(getattr(errors, name).__module__, "safehelms.errors", name)
            self.assertEqual(getattr(errors, name).__name__, name)

    def test_each_stands_under_the_base_alone(self):
        python = (ValueError, Exception, BaseException, object)
        self.assertEqual(HelmError.__mro__, (HelmError,) + python)
        for name in GIVEN + INDEX + ["UnlikeSizes"]:
            one = getattr(errors, name)
            self.assertEqual(one.__mro__, (one, HelmError) + python, name)

    def test_made_by_position_and_by_name(self):
        for names, attribute in ((GIVEN, "given"), (INDEX, "index")):
            for name in names:
                one = getattr(errors, name)
                for value in ODD + [3, (1, 2), [(1, 1)]]:
                    for made in (one(value), one(**{attribute: value})):
                        self.assertEqual(list(vars(made)), [attribute], name)
                        self.assertIs(getattr(made, attribute), value)
                        self.assertIsInstance(made, HelmError)

    def test_without_attributes(self):
        self.assertEqual(vars(HelmError()), {})
        self.assertEqual(vars(UnlikeSizes()), {})

    def test_raised_and_caught_by_the_base(self):
        for name in GIVEN + INDEX:
            for base in (HelmError, ValueError, getattr(errors, name)):
                with self.assertRaises(base) as caught:
                    raise getattr(errors, name)([7])
                self.assertEqual(list(vars(caught.exception).values()), [[7]])
        for base in (HelmError, ValueError, UnlikeSizes):
            with self.assertRaises(base):
                raise UnlikeSizes()

    def test_each_object_keeps_its_own(self):
        one, other = errors.InvalidLot(1), errors.InvalidLot(2)
        self.assertEqual((one.given, other.given), (1, 2))


if __name__ == "__main__":
    unittest.main()
