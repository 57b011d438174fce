"""The refusals: the interface's errors.py."""

import unittest

from clothlayers import errors
from clothlayers.cloths import need_cloth, over
from clothlayers.layers import way
from clothlayers.looms import need_loom
from clothlayers.notes import read
from clothlayers.turning import moved
from samples import PLAIN, REFUSALS, check_refused


class ErrorsTest(unittest.TestCase):
    def test_cloth_error_stands_under_value_error(self):
        self.assertEqual(errors.ClothError.__bases__, (ValueError,))

    def test_each_refusal_stands_straight_under_cloth_error(self):
        for refusal in REFUSALS:
            self.assertEqual(refusal.__bases__, (errors.ClothError,))

    def test_no_refusal_stands_under_another(self):
        for refusal in REFUSALS:
            for other in REFUSALS:
                self.assertEqual(issubclass(refusal, other), refusal is other)

    def test_all_are_defined_in_errors(self):
        for refusal in REFUSALS + (errors.ClothError,):
            self.assertEqual(refusal.__module__, "clothlayers.errors")
            self.assertIs(getattr(errors, refusal.__name__), refusal)

    def test_a_refusal_is_taken_as_its_class_and_those_above(self):
        check_refused(self, errors.BadCloth, need_cloth, None)
        check_refused(self, errors.BadThread, over, PLAIN, 0, 0)
        check_refused(self, errors.BadThread, way, PLAIN, 0, 5)
        check_refused(self, errors.BadCount, moved, PLAIN, None, 0)
        check_refused(self, errors.BadLoom, need_loom, None)
        check_refused(self, errors.BadText, read, None)


if __name__ == "__main__":
    unittest.main()
