"""traceclasses/errors.py: the classes, what they are below, and their fields."""

import unittest

from traceclasses.errors import AlphabetFault, ExchangeFault, ScheduleFault, TraceFault


class Errors(unittest.TestCase):
    def test_base_is_below_value_error(self):
        self.assertTrue(issubclass(TraceFault, ValueError))

    def test_each_one_is_directly_below_the_base(self):
        for kind in (AlphabetFault, ExchangeFault, ScheduleFault):
            self.assertEqual(kind.__bases__, (TraceFault,))

    def test_fields_are_set_when_the_error_is_created(self):
        self.assertEqual(AlphabetFault("pairs").reason, "pairs")
        self.assertEqual(ExchangeFault(3).number, 3)
        self.assertEqual(ScheduleFault(0).number, 0)

    def test_a_fault_has_a_message(self):
        for fault in (AlphabetFault("letters"), ExchangeFault(0), ScheduleFault(2)):
            self.assertTrue(str(fault))


if __name__ == "__main__":
    unittest.main()
