"""The interface, bothways/errors.py."""

import unittest

from bothways.errors import MachineError, NoDrawer, NoPlace, NoRow, OneDrawer

REFUSALS = [NoRow, NoPlace, NoDrawer, OneDrawer]


class TestErrors(unittest.TestCase):
    def test_machine_error_is_a_value_error(self):
        self.assertEqual(MachineError.__bases__, (ValueError,))

    def test_each_refusal_stands_under_machine_error(self):
        for refusal in REFUSALS:
            with self.subTest(refusal=refusal.__name__):
                self.assertEqual(refusal.__bases__, (MachineError,))

    def test_each_refusal_is_taken_as_machine_error_and_as_value_error(self):
        for refusal in REFUSALS:
            for wider in (refusal, MachineError, ValueError):
                with self.subTest(refusal=refusal.__name__, wider=wider.__name__):
                    with self.assertRaises(wider):
                        raise refusal("words")

    def test_no_refusal_is_one_of_the_others(self):
        for refusal in REFUSALS:
            for other in REFUSALS:
                with self.subTest(refusal=refusal.__name__, other=other.__name__):
                    self.assertEqual(issubclass(refusal, other), refusal is other)

    def test_names(self):
        names = [c.__name__ for c in [MachineError] + REFUSALS]
        self.assertEqual(names, ["MachineError", "NoRow", "NoPlace", "NoDrawer", "OneDrawer"])


if __name__ == "__main__":
    unittest.main()
