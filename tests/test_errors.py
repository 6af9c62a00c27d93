"""Point [2]: the errors."""

import unittest

from spindlegate import errors
from spindlegate.errors import BadFlash, NoRoom, NotValid, PowerOff, SpindleError

REFUSALS = (NotValid, PowerOff, BadFlash, NoRoom)


class ErrorsTest(unittest.TestCase):
    def test_spindle_error_is_a_direct_subclass_of_value_error(self):
        self.assertEqual(SpindleError.__bases__, (ValueError,))

    def test_each_refusal_is_a_direct_subclass_of_spindle_error(self):
        for refusal in REFUSALS:
            self.assertEqual(refusal.__bases__, (SpindleError,))

    def test_there_are_no_other_errors(self):
        found = [value for value in vars(errors).values() if isinstance(value, type)]
        self.assertEqual(found, [SpindleError, *REFUSALS])

    def test_each_is_raised_without_an_argument_and_caught_by_its_own_name(self):
        for refusal in REFUSALS:
            with self.assertRaises(refusal):
                raise refusal()
            for other in REFUSALS:
                if other is not refusal:
                    self.assertNotIsInstance(refusal(), other)


if __name__ == "__main__":
    unittest.main()
