"""The interface: names, parameters, and where they are defined."""

import inspect
import unittest

from probelots import chances, desks, notes, plans, reading, trees

LISTED = {
    plans: {
        "answers": "(plan, lot)",
        "grid": "(rows, columns)",
        "beside": "(one, other)",
    },
    reading: {
        "could": "(plan, told, most, *, slips=0)",
        "sure": "(plan, told, most, *, slips=0)",
        "kinds": "(plan, most)",
        "apart": "(plan, most)",
        "idle": "(plan, most)",
    },
    chances: {
        "shares": "(plan, told, chances, wrong, most)",
        "each": "(plan, told, chances, wrong, most)",
        "tells": "(plan, chances, number, most)",
    },
    trees: {
        "best_tree": "(things, most)",
        "read_tree": "(things, most, tree)",
    },
    notes: {
        "written": "(plan, told)",
        "read": "(text)",
    },
}

METHODS = {
    "__init__": "(self, plan, most, *, slips=0)",
    "plan": "(self)",
    "answers": "(self)",
    "lots": "(self)",
    "tell": "(self, number, answer)",
    "drop": "(self, number)",
    "probe": "(self, lot)",
    "batch": "(self, deeds, *, keep=True)",
    "book": "(self)",
    "is_idle": "(self)",
}

PLAN = (4, ((0, 1), (1, 2)))


class Interface(unittest.TestCase):
    def test_functions_are_defined_where_they_are_listed(self):
        for module, functions in LISTED.items():
            for name, parameters in functions.items():
                function = getattr(module, name)
                self.assertTrue(inspect.isfunction(function), name)
                self.assertEqual(function.__module__, module.__name__)
                self.assertEqual(str(inspect.signature(function)), parameters)

    def test_the_desk_and_its_methods(self):
        self.assertTrue(inspect.isclass(desks.Desk))
        self.assertEqual(desks.Desk.__module__, "probelots.desks")
        for name, parameters in METHODS.items():
            method = desks.Desk.__dict__[name]
            self.assertTrue(inspect.isfunction(method), name)
            self.assertEqual(method.__module__, "probelots.desks")
            self.assertEqual(str(inspect.signature(method)), parameters)

    def test_all_but_slips_may_be_handed_in_by_name(self):
        self.assertEqual(plans.answers(lot=(2,), plan=PLAN), (0, 1))
        self.assertEqual(plans.grid(columns=2, rows=1), (2, ((0, 1), (0,), (1,))))
        self.assertEqual(plans.beside(other=(1, ((0,),)), one=(1, ())), (2, ((1,),)))
        self.assertEqual(reading.could(told=(1, 1), most=1, plan=PLAN), [((1,), 0)])
        self.assertEqual(reading.sure(most=1, plan=PLAN, told=(1, 1)), ([1], [0, 2, 3]))
        self.assertEqual(reading.kinds(most=1, plan=PLAN), 4)
        self.assertEqual(reading.apart(most=1, plan=PLAN), (0, (), (3,)))
        self.assertEqual(reading.idle(most=1, plan=PLAN), [])

        self.assertEqual(chances.shares(most=0, wrong=5, chances=(5,) * 4, told=(0, 0), plan=PLAN), [((), (1, 1))])
        self.assertEqual(chances.each(most=0, wrong=5, chances=(5,) * 4, told=(0, 0), plan=PLAN), [(0, 1)] * 4)
        self.assertEqual(chances.tells(most=0, number=1, chances=(5,) * 4, plan=PLAN), (0, 1))
        self.assertEqual(trees.best_tree(most=0, things=2), (0, ("lot", ())))
        self.assertEqual(trees.read_tree(tree=("lot", ()), most=0, things=2), [((), 0)])
        self.assertEqual(notes.written(told=(1, None), plan=PLAN), "things 4\n+ 0 1\n? 1 2")
        self.assertEqual(notes.read(text="things 4\n+ 0 1\n? 1 2"), (PLAN, (1, None)))

    def test_all_of_a_desk_may_be_handed_in_by_name(self):
        desk = desks.Desk(slips=0, most=1, plan=PLAN)
        self.assertEqual(desk.tell(answer=1, number=0), -3)
        self.assertEqual(desk.probe(lot=(3,)), 2)
        self.assertEqual(desk.drop(number=0), 3)
        self.assertEqual(desk.batch(keep=False, deeds=[("drop", 0)]), [0])

    def test_slips_and_keep_are_handed_in_by_name_alone(self):
        for call in (reading.could, reading.sure):
            with self.assertRaises(TypeError):
                call(PLAN, (0, 0), 1, 0)
        with self.assertRaises(TypeError):
            desks.Desk(PLAN, 1, 0)
        with self.assertRaises(TypeError):
            desks.Desk(PLAN, 1).batch([], True)

    def test_slips_are_0_if_none_are_told(self):
        for call in (reading.could, reading.sure):
            for told in ((0, 0), (1, 0), (None, 1)):
                self.assertEqual(call(PLAN, told, 1), call(PLAN, told, 1, slips=0))
                self.assertNotEqual(call(PLAN, told, 1), call(PLAN, told, 1, slips=1))
        for slips, more in [({}, -3), ({"slips": 0}, -3), ({"slips": 1}, 0)]:
            self.assertEqual(desks.Desk(PLAN, 1, **slips).tell(0, 1), more)

    def test_keep_is_true_if_none_is_told(self):
        for keep, probes in [({}, 1), ({"keep": True}, 1), ({"keep": False}, 2)]:
            desk = desks.Desk(PLAN, 1)
            with self.assertRaises(ValueError):
                desk.batch([("drop", 0), ("drop", 1)], **keep)
            self.assertEqual(len(desk.answers()), probes)


if __name__ == "__main__":
    unittest.main()
