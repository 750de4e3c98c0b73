"""Promises [4] and [5]: what may be so, and how well a plan tells lots apart."""

import unittest

from probelots.plans import answers, grid
from probelots.reading import apart, could, idle, kinds, sure
from tests.samples import NO_NUMBERS, Refusing, slow_lots

PLANS = [
    (1, ()),
    (1, ((0,),)),
    (4, ()),
    (4, ((0, 1), (1, 2), (1, 2), (0, 1, 2, 3))),
    (5, ((0, 2, 4), (1, 2), (3, 4))),
    (6, ((0, 1), (0, 1), (5,))),
    (8, ((0, 1, 2, 3), (0, 1, 4, 5), (0, 2, 4, 6))),
    grid(2, 2),
    grid(3, 3),
    (10, tuple((thing,) for thing in range(10))),
]


def slow_could(plan, told, most, slips):
    found = []
    for lot in slow_lots(plan[0], most):
        count = 0
        for number, probe in enumerate(plan[1]):
            right = int(bool(set(probe) & set(lot)))
            count += told[number] in (0, 1) and told[number] != right
        if count <= slips:
            found.append((lot, count))
    return found


def some_tolds(many):
    """Answers of different patterns for so many probes."""
    for turn in range(27):
        yield tuple((0, 1, None)[(turn // 3 ** (number % 3)) % 3] for number in range(many))


def slow_kinds(plan, most):
    return len({answers(plan, lot) for lot in slow_lots(plan[0], most)})


def slow_apart(plan, most):
    lots = slow_lots(plan[0], most)
    pairs = []
    for i, one in enumerate(lots):
        for j, other in enumerate(lots):
            if i != j:
                gap = sum(a != b for a, b in zip(answers(plan, one), answers(plan, other)))
                pairs.append((gap, i, j))
    if not pairs:
        return None
    gap, i, j = min(pairs)
    return gap, lots[i], lots[j]


class Could(Refusing, unittest.TestCase):
    PLAN = (4, ((0, 1), (1, 2), (3,)))

    def test_lots_and_how_many_answers_are_slips(self):
        self.assertEqual(could(self.PLAN, (1, 0, 0), 1), [((0,), 0)])
        self.assertEqual(could(self.PLAN, (1, 1, 0), 2), [((1,), 0), ((0, 1), 0), ((0, 2), 0), ((1, 2), 0)])
        self.assertEqual(could(self.PLAN, (1, 1, 0), 1, slips=1), [((0,), 1), ((1,), 0), ((2,), 1)])
        self.assertEqual(
            could(self.PLAN, (1, 1, 0), 1, slips=3),
            [((), 2), ((0,), 1), ((1,), 0), ((2,), 1), ((3,), 3)],
        )

    def test_the_turn_of_lots(self):
        lots = [lot for lot, _ in could((4, ()), (), 3)]
        self.assertEqual(lots, [
            (), (0,), (1,), (2,), (3,),
            (0, 1), (0, 2), (0, 3), (1, 2), (1, 3), (2, 3),
            (0, 1, 2), (0, 1, 3), (0, 2, 3), (1, 2, 3),
        ])

    def test_most_0_to_3(self):
        for most, many in enumerate([1, 11, 56, 176]):
            self.assertEqual(len(could((10, ()), (), most)), many)
        self.assertEqual(could((4, ((0,),)), (0,), 0), [((), 0)])
        self.assertEqual(could((4, ((0,),)), (1,), 0), [])

    def test_most_above_the_things(self):
        self.assertEqual(could((1, ()), (), 3), [((), 0), ((0,), 0)])
        self.assertEqual(could((2, ()), (), 3), [((), 0), ((0,), 0), ((1,), 0), ((0, 1), 0)])

    def test_most_beyond(self):
        for wrong in NO_NUMBERS + [-1, 4, 10 ** 30]:
            for call in (could, sure):
                self.refused("BadCount", call, self.PLAN, (0, 0, 0), wrong)
                self.refused("BadCount", call, (1, ()), (), wrong, slips=16)

    def test_slips_0_to_16(self):
        plan, told = (1, ((0,),) * 16), (1,) * 9 + (0,) * 7
        for slips in range(17):
            fit = [((), 9)] * (slips >= 9) + [((0,), 7)] * (slips >= 7)
            self.assertEqual(could(plan, told, 1, slips=slips), fit)
        self.assertEqual(could(plan, (1,) * 16, 0, slips=16), [((), 16)])
        self.assertEqual(could(plan, (1,) * 16, 0, slips=15), [])

    def test_more_slips_than_answers(self):
        self.assertEqual(could((2, ((0,),)), (1,), 1, slips=16), [((), 1), ((0,), 0), ((1,), 1)])
        self.assertEqual(could((1, ()), (), 1, slips=16), [((), 0), ((0,), 0)])

    def test_slips_beyond(self):
        for wrong in NO_NUMBERS + [-1, 17, 10 ** 30]:
            for call in (could, sure):
                self.refused("BadCount", call, self.PLAN, (0, 0, 0), 1, slips=wrong)
                self.refused("BadCount", call, (1, ()), (), 0, slips=wrong)

    def test_none_is_no_answer(self):
        self.assertEqual(could(self.PLAN, (None, 1, None), 1), [((1,), 0), ((2,), 0)])
        self.assertEqual(could(self.PLAN, (None, 1, None), 1, slips=1),
                         [((), 1), ((0,), 1), ((1,), 0), ((2,), 0), ((3,), 1)])

    def test_none_alone(self):
        self.assertEqual(could(self.PLAN, (None,) * 3, 1), [((), 0), ((0,), 0), ((1,), 0), ((2,), 0), ((3,), 0)])

    def test_no_lot_may_be_so(self):
        self.assertEqual(could((2, ((0,), (0,))), (0, 1), 2), [])

    def test_what_it_tells_is_a_list_of_tuples(self):
        given = could(self.PLAN, (1, 0, 0), 2, slips=1)
        self.assertIs(given.__class__, list)
        for row in given:
            self.assertEqual([row.__class__, row[0].__class__, row[1].__class__], [tuple, tuple, int])

    def test_against_every_set_of_things(self):
        for plan in PLANS:
            for told in some_tolds(len(plan[1])):
                for most in range(4):
                    for slips in (0, 1, 2, 16):
                        self.assertEqual(could(plan, told, most, slips=slips), slow_could(plan, told, most, slips))


class Sure(unittest.TestCase):
    PLAN = (4, ((0, 1), (1, 2), (3,)))

    def test_what_all_have_and_none_has(self):
        self.assertEqual(sure(self.PLAN, (1, 0, 1), 2), ([0, 3], [1, 2]))
        self.assertEqual(sure(self.PLAN, (1, 0, 1), 3), ([0, 3], [1, 2]))
        self.assertEqual(sure(self.PLAN, (1, 1, 0), 2), ([], [3]))
        self.assertEqual(sure(self.PLAN, (1, 1, 0), 1), ([1], [0, 2, 3]))
        self.assertEqual(sure(self.PLAN, (1, 1, 0), 1, slips=1), ([], [3]))

    def test_rising_lists(self):
        plan = (10, ((0, 1, 2, 3, 4, 5, 6), (9,), (8,), (7,)))
        self.assertEqual(sure(plan, (0, 1, 1, 1), 3), ([7, 8, 9], [0, 1, 2, 3, 4, 5, 6]))
        given = sure(plan, (0, 1, 1, 1), 3)
        self.assertEqual([given.__class__, given[0].__class__, given[1].__class__], [tuple, list, list])

    def test_the_empty_lot_alone(self):
        self.assertEqual(sure(self.PLAN, (0, 0, 0), 3), ([], [0, 1, 2, 3]))
        self.assertEqual(sure((3, ()), (), 0), ([], [0, 1, 2]))

    def test_answers_of_none_alone_and_no_probes(self):
        self.assertEqual(sure(self.PLAN, (None,) * 3, 1), ([], []))
        self.assertEqual(sure((1, ()), (), 1), ([], []))

    def test_no_lot_may_be_so(self):
        self.assertIsNone(sure(self.PLAN, (1, 1, 1), 1))
        self.assertIsNone(sure((2, ((0,), (0,))), (0, 1), 2))
        self.assertIsNone(sure((2, ((0,),)), (1,), 0))
        self.assertIsNotNone(sure((2, ((0,),)), (1,), 0, slips=1))

    def test_against_every_set_of_things(self):
        for plan in PLANS:
            for told in some_tolds(len(plan[1])):
                for slips in (0, 1):
                    lots = [set(lot) for lot, _ in slow_could(plan, told, 2, slips)]
                    right = None
                    if lots:
                        things = set(range(plan[0]))
                        right = sorted(things.intersection(*lots)), sorted(things.difference(*lots))
                    self.assertEqual(sure(plan, told, 2, slips=slips), right)


class Kinds(Refusing, unittest.TestCase):
    def test_how_many_unlike_answers(self):
        plan = (4, ((0, 1), (1, 2)))
        self.assertEqual([kinds(plan, most) for most in range(4)], [1, 4, 4, 4])
        self.assertEqual(kinds((3, ((0,), (1,), (2,))), 2), 7)
        self.assertEqual(kinds((3, ((0, 1, 2), (0, 1, 2))), 3), 2)
        self.assertEqual(kinds(grid(3, 3), 1), 10)

    def test_no_probes(self):
        self.assertEqual([kinds((10, ()), most) for most in range(4)], [1, 1, 1, 1])

    def test_most_beyond(self):
        for call in (kinds, apart, idle):
            for wrong in NO_NUMBERS + [-1, 4, 10 ** 30]:
                self.refused("BadCount", call, (4, ((0, 1),)), wrong)
                self.refused("BadCount", call, (1, ()), wrong)

    def test_against_every_set_of_things(self):
        for plan in PLANS:
            for most in range(4):
                self.assertEqual(kinds(plan, most), slow_kinds(plan, most))


class Apart(unittest.TestCase):
    def test_two_lots_that_answer_alike(self):
        self.assertEqual(apart((4, ((0, 1), (1, 2))), 1), (0, (), (3,)))
        self.assertEqual(apart((3, ((0,), (1, 2))), 1), (0, (1,), (2,)))
        self.assertEqual(apart((3, ((0, 1, 2),)), 2), (0, (0,), (1,)))

    def test_the_least_gap(self):
        self.assertEqual(apart((2, ((0,), (0,), (0, 1), (1,), (1,))), 1), (3, (), (0,)))
        self.assertEqual(apart((2, ((0,), (0,), (1,), (1,), (1,))), 2), (2, (), (0,)))
        self.assertEqual(apart((2, ((0,), (0,), (0,), (1,), (1,))), 2), (2, (), (1,)))
        self.assertEqual(apart((2, ((0, 1),) * 5 + ((0,),)), 1), (1, (0,), (1,)))
        self.assertEqual(apart((1, ((0,),) * 16), 3), (16, (), (0,)))

    def test_the_turn_of_pairs(self):
        self.assertEqual(apart((3, ()), 2), (0, (), (0,)))
        self.assertEqual(apart((4, ((0, 1), (2, 3))), 1), (0, (0,), (1,)))
        self.assertEqual(apart((4, ((0, 3), (1, 2))), 1), (0, (0,), (3,)))
        self.assertEqual(apart((3, ((0,), (1,), (2,))), 2), (1, (), (0,)))

    def test_one_lot_alone(self):
        self.assertIsNone(apart((4, ((0, 1), (1, 2))), 0))
        self.assertIsNone(apart((1, ()), 0))
        self.assertIsNotNone(apart((1, ()), 1))

    def test_what_it_tells_is_a_tuple(self):
        given = apart((4, ((0, 1), (1, 2))), 1)
        self.assertEqual([given.__class__] + [part.__class__ for part in given], [tuple, int, tuple, tuple])

    def test_against_every_pair(self):
        for plan in PLANS:
            for most in range(4):
                self.assertEqual(apart(plan, most), slow_apart(plan, most))


class Idle(unittest.TestCase):
    def test_each_without_which_kinds_is_the_same(self):
        self.assertEqual(idle((4, ((0, 1), (1, 2))), 1), [])
        self.assertEqual(idle((4, ((0, 1), (1, 2), (0, 1))), 1), [0, 2])
        self.assertEqual(idle((2, ((0, 1), (0,), (1,))), 2), [0])
        self.assertEqual(idle((2, ((0, 1), (0,), (1,))), 1), [0, 1, 2])

    def test_no_lot_but_the_empty_one(self):
        self.assertEqual(idle((4, ((0, 1), (1, 2), (3,))), 0), [0, 1, 2])

    def test_no_probes(self):
        for most in range(4):
            self.assertEqual(idle((4, ()), most), [])

    def test_against_taking_out_each(self):
        for plan in PLANS:
            things, probes = plan
            for most in range(4):
                right = []
                for number in range(len(probes)):
                    rest = [probe for at, probe in enumerate(probes) if at != number]
                    if slow_kinds((things, tuple(rest)), most) == slow_kinds(plan, most):
                        right.append(number)
                given = idle(plan, most)
                self.assertEqual(given, right)
                self.assertIs(given.__class__, list)


if __name__ == "__main__":
    unittest.main()
