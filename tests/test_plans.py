"""Promises [2] and [3]: plans, lots, answers."""

import unittest

from probelots.chances import each, shares, tells
from probelots.desks import Desk
from probelots.notes import written
from probelots.plans import answers, beside, grid
from probelots.reading import apart, could, idle, kinds, sure
from tests.samples import NO_NUMBERS, NO_TUPLES, Refusing

# Each of the functions that take a plan, with all else as it may be.
TAKING_PLANS = [
    lambda plan: answers(plan, ()),
    lambda plan: beside(plan, (1, ())),
    lambda plan: beside((1, ()), plan),
    lambda plan: could(plan, (None,) * len(plan[1]), 1),
    lambda plan: sure(plan, (None,) * len(plan[1]), 1),
    lambda plan: kinds(plan, 1),
    lambda plan: apart(plan, 1),
    lambda plan: idle(plan, 1),
    lambda plan: shares(plan, (None,) * len(plan[1]), (5,) * plan[0], 5, 1),
    lambda plan: each(plan, (None,) * len(plan[1]), (5,) * plan[0], 5, 1),
    lambda plan: tells(plan, (5,) * plan[0], 0, 1) if plan[1] else None,
    lambda plan: Desk(plan, 1),
    lambda plan: written(plan, (None,) * len(plan[1])),
]

REFUSING_PLANS = [
    lambda plan: answers(plan, ()),
    lambda plan: beside(plan, (1, ())),
    lambda plan: beside((1, ()), plan),
    lambda plan: could(plan, (), 1),
    lambda plan: sure(plan, (), 1),
    lambda plan: kinds(plan, 1),
    lambda plan: apart(plan, 1),
    lambda plan: idle(plan, 1),
    lambda plan: shares(plan, (), (), 5, 1),
    lambda plan: each(plan, (), (), 5, 1),
    lambda plan: tells(plan, (), 0, 1),
    lambda plan: Desk(plan, 1),
    lambda plan: Desk(plan, 1, slips=1),
    lambda plan: written(plan, ()),
]


class Plans(Refusing, unittest.TestCase):
    def taken(self, *plans):
        for plan in plans:
            for number, call in enumerate(TAKING_PLANS):
                # Ten things leave no room beside them.
                if plan[0] < 10 and len(plan[1]) <= 16 or number not in (1, 2):
                    call(plan)

    def bad(self, number, *plans):
        for plan in plans:
            for call in REFUSING_PLANS:
                self.refused_at("BadPlan", number, call, plan)

    def test_ordinary_plans_are_taken(self):
        self.taken((8, ((0, 1, 2), (2, 5), (7,))), (3, ((0,), (0,), (0, 1, 2))))

    def test_bounds_of_things(self):
        self.taken((1, ((0,),)), (10, ((0, 9), tuple(range(10)))))
        self.bad(-1, (0, ()), (11, ()), (-1, ()), (10 ** 30, ()), (-(10 ** 30), ()))

    def test_things_that_are_no_number(self):
        self.bad(-1, *[(things, ()) for things in NO_NUMBERS])

    def test_no_tuple_of_two(self):
        self.bad(-1, *NO_TUPLES)
        self.bad(-1, (), (8,), (8, (), ()), (8, ((0,),), None), ((8, ()),), [8, ((0,),)])

    def test_probes_that_are_no_tuple(self):
        self.bad(0, *[(8, probes) for probes in NO_TUPLES])
        self.bad(0, (8, [(0,), (1,)]), (8, [()]))

    def test_things_ahead_of_probes(self):
        self.bad(-1, (0, [(0,)]), (11, None), (True, ((),)), ("8", 5))

    def test_as_many_as_16_probes(self):
        self.taken((4, ()), (4, ((3,),) * 15), (4, ((3,),) * 16))
        self.bad(16, (4, ((3,),) * 17), (4, ((3,),) * 40), (4, ((3,),) * 16 + ((),)), (4, ((3,),) * 17 + (5,)))

    def test_the_first_probe_that_can_not_be(self):
        good = (0, 3)
        for wrong in [(), (1, 0), (0, 0), (0, 2, 1), (0, 1, 1), (4,), (0, 4), (-1,), (-1, 0)]:
            self.bad(0, (4, (wrong,)), (4, (wrong, good)), (4, (wrong, good, ())))
            self.bad(2, (4, (good, good, wrong)), (4, (good, good, wrong, (), good)))
            self.bad(15, (4, (good,) * 15 + (wrong,)), (4, (good,) * 15 + (wrong, good)))
            self.bad(5, (4, (good,) * 5 + (wrong,) * 30))

    def test_probes_of_what_is_no_thing(self):
        for thing in NO_NUMBERS:
            self.bad(1, (4, ((0,), (thing,))), (4, ((0,), (thing, 2))), (4, ((0,), (0, thing))))
        self.bad(0, (4, ((False,),)), (4, ((0, True),)), (4, ((10 ** 30,),)))

    def test_probes_that_are_no_tuples(self):
        for probe in NO_TUPLES:
            self.bad(0, (4, (probe,)))
            self.bad(1, (4, ((0,), probe, ())))


class Lots(Refusing, unittest.TestCase):
    def test_what_probes_answer(self):
        plan = (8, ((0, 1, 2), (2, 5), (7,), (0, 3, 4, 6)))
        self.assertEqual(answers(plan, (2,)), (1, 1, 0, 0))
        self.assertEqual(answers(plan, (3, 5)), (0, 1, 0, 1))
        self.assertEqual(answers(plan, (0, 1, 2)), (1, 1, 0, 1))
        self.assertEqual(answers(plan, (0, 1, 2, 3, 4, 5, 6, 7)), (1, 1, 1, 1))
        self.assertEqual(answers((2, ((0,), (0,), (1,))), (1,)), (0, 0, 1))

    def test_answers_are_a_tuple_of_numbers(self):
        given = answers((3, ((0,), (1, 2))), (0,))
        self.assertIs(given.__class__, tuple)
        self.assertEqual([answer.__class__ for answer in given], [int, int])

    def test_an_empty_lot(self):
        self.assertEqual(answers((8, ((0, 1), (7,))), ()), (0, 0))
        self.assertEqual(answers((1, ((0,),)), ()), (0,))

    def test_no_probes(self):
        self.assertEqual(answers((8, ()), (0, 7)), ())
        self.assertEqual(answers((8, ()), ()), ())

    def test_the_last_thing(self):
        self.assertEqual(answers((10, ((9,), (0,))), (9,)), (1, 0))
        self.assertEqual(answers((1, ((0,),)), (0,)), (1,))

    def test_lots_that_can_not_be(self):
        plan = (4, ((0, 1), (2,)))
        for lot in NO_TUPLES:
            self.refused("BadLot", answers, plan, lot)
        for lot in [(4,), (0, 4), (-1,), (-1, 2), (1, 0), (2, 2), (0, 3, 2), (10 ** 30,), [0], [0, 1]]:
            self.refused("BadLot", answers, plan, lot)
        for thing in NO_NUMBERS:
            self.refused("BadLot", answers, plan, (thing,))
            self.refused("BadLot", answers, plan, (0, thing))
            self.refused("BadLot", answers, plan, (thing, 3))


class Told(Refusing, unittest.TestCase):
    PLAN = (4, ((0,), (1, 2), (3,)))

    def bad(self, number, plan, *tolds):
        for told in tolds:
            for call in (could, sure):
                self.refused_at("BadAnswers", number, call, plan, told, 1)
                self.refused_at("BadAnswers", number, call, plan, told, 1, slips=16)
            for call in (shares, each):
                self.refused_at("BadAnswers", number, call, plan, told, (5,) * plan[0], 5, 1)
            self.refused_at("BadAnswers", number, written, plan, told)

    def test_answers_that_may_be(self):
        for told in [(0, 0, 0), (1, 0, 1), (None, None, None), (None, 1, 0)]:
            could(self.PLAN, told, 3)
            sure(self.PLAN, told, 3)
            shares(self.PLAN, told, (5,) * 4, 5, 3)
            each(self.PLAN, told, (5,) * 4, 5, 3)
            written(self.PLAN, told)
        could((4, ()), (), 1)
        written((4, ()), ())

    def test_one_too_few(self):
        self.bad(2, self.PLAN, (0, 0), (1, None), (None, None))
        self.bad(0, self.PLAN, ())
        self.bad(1, self.PLAN, (1,))
        self.bad(15, (4, ((0,),) * 16), (0,) * 15)

    def test_one_too_many(self):
        self.bad(3, self.PLAN, (0, 0, 0, 0), (1, 0, 1, None), (1, 0, 1, 7), (1, 0, 1, 7, 7), (0,) * 30)
        self.bad(0, (4, ()), (0,), (None,), (5, 5))
        self.bad(16, (4, ((0,),) * 16), (0,) * 17)

    def test_another_value(self):
        for answer in NO_NUMBERS + [2, -1, 10 ** 30]:
            if answer is not None:
                self.bad(0, self.PLAN, (answer, 0, 0), (answer, answer, answer), (answer,), (answer, 0, 0, 0))
                self.bad(1, self.PLAN, (0, answer, 0), (None, answer, answer), (0, answer), (0, answer, 0, 0))
                self.bad(2, self.PLAN, (0, 0, answer), (1, None, answer, 0))

    def test_no_tuple(self):
        for told in NO_TUPLES + [[0, 0, 0], [0, 0], "000"]:
            self.bad(0, self.PLAN, told)
            self.bad(0, (4, ()), told)


class Grid(Refusing, unittest.TestCase):
    def test_rows_and_then_columns(self):
        self.assertEqual(grid(2, 3), (6, ((0, 1, 2), (3, 4, 5), (0, 3), (1, 4), (2, 5))))
        self.assertEqual(grid(3, 2), (6, ((0, 1), (2, 3), (4, 5), (0, 2, 4), (1, 3, 5))))
        self.assertEqual(grid(5, 2), (10, ((0, 1), (2, 3), (4, 5), (6, 7), (8, 9), (0, 2, 4, 6, 8), (1, 3, 5, 7, 9))))

    def test_1_and_10(self):
        line = tuple(range(10))
        singles = tuple((thing,) for thing in line)
        self.assertEqual(grid(1, 1), (1, ((0,), (0,))))
        self.assertEqual(grid(1, 10), (10, (line,) + singles))
        self.assertEqual(grid(10, 1), (10, singles + (line,)))

    def test_what_it_tells_is_a_plan(self):
        for rows in range(1, 11):
            for columns in range(1, 10 // rows + 1):
                plan = grid(rows, columns)
                self.assertEqual(plan[0], rows * columns)
                self.assertEqual(len(answers(plan, ())), rows + columns)

    def test_rows_by_columns_above_10(self):
        for rows in range(1, 11):
            for columns in range(10 // rows + 1, 11):
                self.refused("BadCount", grid, rows, columns)

    def test_wrong_counts(self):
        for wrong in NO_NUMBERS + [0, -1, 11, 10 ** 30, -(10 ** 30)]:
            for good in (1, 2, 10):
                self.refused("BadCount", grid, wrong, good)
                self.refused("BadCount", grid, good, wrong)
            self.refused("BadCount", grid, wrong, wrong)
        self.refused("BadCount", grid, -2, -3)
        self.refused("BadCount", grid, 0, 11)


class Beside(Refusing, unittest.TestCase):
    def test_things_and_probes_behind(self):
        one = (3, ((0, 2), (1,)))
        other = (2, ((1,), (0, 1), (0,)))
        self.assertEqual(beside(one, other), (5, ((0, 2), (1,), (4,), (3, 4), (3,))))
        self.assertEqual(beside(other, one), (5, ((1,), (0, 1), (0,), (2, 4), (3,))))
        self.assertEqual(beside(one, one), (6, ((0, 2), (1,), (3, 5), (4,))))

    def test_no_probes(self):
        self.assertEqual(beside((1, ()), (2, ())), (3, ()))
        self.assertEqual(beside((4, ()), (2, ((0, 1),))), (6, ((4, 5),)))
        self.assertEqual(beside((4, ((3,),)), (2, ())), (6, ((3,),)))

    def test_ten_things(self):
        self.assertEqual(beside((9, ((8,),)), (1, ((0,),))), (10, ((8,), (9,))))
        self.assertEqual(beside((1, ()), (9, ((0, 8),))), (10, ((1, 9),)))
        for one, other in [(10, 1), (1, 10), (6, 5), (10, 10)]:
            self.refused_at("BadPlan", -1, beside, (one, ()), (other, ()))

    def test_sixteen_probes(self):
        for one, other in [(16, 0), (0, 16), (8, 8), (15, 1)]:
            plan = beside((2, ((1,),) * one), (2, ((1,),) * other))
            self.assertEqual(plan, (4, ((1,),) * one + ((3,),) * other))
        for one, other in [(16, 1), (1, 16), (9, 8), (16, 16)]:
            self.refused_at("BadPlan", 16, beside, (2, ((1,),) * one), (2, ((1,),) * other))

    def test_things_ahead_of_probes(self):
        self.refused_at("BadPlan", -1, beside, (6, ((1,),) * 16), (5, ((1,),) * 16))

    def test_the_one_ahead_of_the_other(self):
        good, few, empty = (9, ((1,),)), (0, ()), (9, ((1,), ()))
        self.refused_at("BadPlan", 1, beside, empty, few)
        self.refused_at("BadPlan", -1, beside, few, empty)
        self.refused_at("BadPlan", 1, beside, good, empty)
        self.refused_at("BadPlan", 1, beside, empty, good)
        self.refused_at("BadPlan", 16, beside, (9, ((1,),) * 17), good)


if __name__ == "__main__":
    unittest.main()
