"""The interface: names, parameters, and where they are defined."""

import inspect
import unittest

from probelots import plans, reading

LISTED = {
    plans: {
        "answers": "(plan, lot)",
        "grid": "(rows, columns)",
        "beside": "(one, other)",
    },
    reading: {
        "could": "(plan, told, most, *, slips=0)",
        "sure": "(plan, told, most, *, slips=0)",
        "kinds": "(plan, most)",
        "apart": "(plan, most)",
        "idle": "(plan, most)",
    },
}

PLAN = (4, ((0, 1), (1, 2)))


class Interface(unittest.TestCase):
    def test_functions_are_defined_where_they_are_listed(self):
        for module, functions in LISTED.items():
            for name, parameters in functions.items():
                function = getattr(module, name)
                self.assertTrue(inspect.isfunction(function), name)
                self.assertEqual(function.__module__, module.__name__)
                self.assertEqual(str(inspect.signature(function)), parameters)

    def test_all_but_slips_may_be_handed_in_by_name(self):
        self.assertEqual(plans.answers(lot=(2,), plan=PLAN), (0, 1))
        self.assertEqual(plans.grid(columns=2, rows=1), (2, ((0, 1), (0,), (1,))))
        self.assertEqual(plans.beside(other=(1, ((0,),)), one=(1, ())), (2, ((1,),)))
        self.assertEqual(reading.could(told=(1, 1), most=1, plan=PLAN), [((1,), 0)])
        self.assertEqual(reading.sure(most=1, plan=PLAN, told=(1, 1)), ([1], [0, 2, 3]))
        self.assertEqual(reading.kinds(most=1, plan=PLAN), 4)
        self.assertEqual(reading.apart(most=1, plan=PLAN), (0, (), (3,)))
        self.assertEqual(reading.idle(most=1, plan=PLAN), [])

    def test_slips_are_handed_in_by_name_alone(self):
        for call in (reading.could, reading.sure):
            with self.assertRaises(TypeError):
                call(PLAN, (0, 0), 1, 0)

    def test_slips_are_0_if_none_are_told(self):
        for call in (reading.could, reading.sure):
            for told in ((0, 0), (1, 0), (None, 1)):
                self.assertEqual(call(PLAN, told, 1), call(PLAN, told, 1, slips=0))
                self.assertNotEqual(call(PLAN, told, 1), call(PLAN, told, 1, slips=1))


if __name__ == "__main__":
    unittest.main()
