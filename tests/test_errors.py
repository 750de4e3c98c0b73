"""probelots/errors.py: the classes of the interface and their values."""

import unittest

from probelots import errors
from tests.samples import LISTED, kinds_of


class Errors(unittest.TestCase):
    def test_probe_error_is_a_value_error(self):
        self.assertEqual(errors.ProbeError.__bases__, (ValueError,))
        self.assertEqual(errors.ProbeError.__module__, "probelots.errors")

    def test_each_stands_directly_under_probe_error(self):
        for name in LISTED:
            kind = getattr(errors, name)
            self.assertEqual(kind.__bases__, (errors.ProbeError,), name)
            self.assertEqual(kind.__module__, "probelots.errors", name)
            self.assertEqual(kind.__name__, name)

    def test_none_is_under_another_one(self):
        for name, values in LISTED.items():
            error = getattr(errors, name)(*values)
            self.assertEqual(kinds_of(error), [name])

    def test_values_are_set_on_each_object(self):
        for name, values in LISTED.items():
            kind = getattr(errors, name)
            worths = [(5, value) for value in values]
            for error in (kind(*worths), kind(**dict(zip(values, worths)))):
                self.assertEqual({value: error.__dict__[value] for value in values}, dict(zip(values, worths)))

    def test_values_are_each_objects_own(self):
        one, other = errors.BadPlan(-1), errors.BadPlan(16)
        self.assertEqual((one.number, other.number), (-1, 16))
        self.assertEqual(errors.BadTree((0, 1)).way, (0, 1))
        halted = errors.Halted(3, 2)
        self.assertEqual((halted.number, halted.done), (3, 2))
        self.assertEqual(errors.BadText(4).row, 4)


if __name__ == "__main__":
    unittest.main()
