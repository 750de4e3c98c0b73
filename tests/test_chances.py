"""Promise [6]: shares, the sums of them, and what is refused."""

import unittest
from fractions import Fraction
from math import gcd

from probelots.chances import each, shares, tells
from probelots.plans import answers
from tests.samples import NO_NUMBERS, NO_TUPLES, Refusing, slow_lots

PLAN = (4, ((0, 1), (1, 2), (3,)))
EVEN = (50, 50, 50, 50)

# Plans, answers, and chances with 0, with 100, between, and alike.
CASES = [
    (PLAN, (1, 1, 0), (10, 20, 30, 40)),
    (PLAN, (1, 0, None), (10, 20, 30, 40)),
    (PLAN, (None, None, None), EVEN),
    (PLAN, (0, 1, 1), (0, 5, 100, 60)),
    (PLAN, (1, None, 0), (1, 99, 1, 99)),
    (PLAN, (1, 1, 1), (100, 0, 0, 0)),
    (PLAN, (0, 0, 0), (100, 100, 100, 100)),
    ((5, ((0, 1, 2), (2, 3, 4), (0, 4), (0, 4))), (1, 1, 0, 1), (7, 7, 7, 7, 7)),
    ((1, ((0,),)), (1,), (3,)),
    ((3, ()), (), (20, 0, 45)),
    ((10, ((0, 1, 2, 3, 4), (4, 5, 6), (9,))), (1, None, 1), (5, 10, 15, 20, 25, 30, 35, 40, 45, 50)),
]


def slow_chances(plan, told, chances, wrong, most):
    """(lot, chance) of all lots that may be so, in turn."""
    found = []
    for lot in slow_lots(plan[0], most):
        chance = Fraction(1)
        for thing, hundredths in enumerate(chances):
            bad = Fraction(hundredths, 100)
            chance *= bad if thing in lot else 1 - bad
        for one, right in zip(told, answers(plan, lot)):
            if one is not None:
                slip = Fraction(wrong, 100)
                chance *= 1 - slip if one == right else slip
        if chance:
            found.append((lot, chance))
    return found


def pair(worth):
    return worth.numerator, worth.denominator


def part_of(rows, is_in):
    """The part that those rows have whose lot is in."""
    return pair(sum((chance for lot, chance in rows if is_in(lot)), Fraction(0)) / sum(chance for _, chance in rows))


def slow_shares(plan, rows):
    falling = sorted((-chance, len(lot), lot) for lot, chance in rows)
    return [(lot, part_of(rows, lot.__eq__)) for _, _, lot in falling]


def slow_each(plan, rows):
    return [part_of(rows, lambda lot: thing in lot) for thing in range(plan[0])]


class GoingThrough(Refusing):
    def held_against_all_lots(self, call, slow):
        """Hold what is told against what slow makes of the plan and the chances of all lots."""
        for plan, told, chances in CASES:
            for wrong in (0, 1, 10, 50, 99, 100):
                for most in range(4):
                    handed = (plan, told, chances, wrong, most)
                    rows = slow_chances(*handed)
                    if rows:
                        self.assertEqual(call(*handed), slow(plan, rows), handed)
                    else:
                        self.refused("NoLot", call, *handed)


class Shares(GoingThrough, unittest.TestCase):
    def test_by_hand(self):
        # By 10 and 20 hundredths (), (0,), (1,), (0, 1) are 72, 8, 18 and 2 of a hundred.
        plan = (2, ((0, 1),))
        self.assertEqual(shares(plan, (None,), (10, 20), 0, 1), [((), (36, 49)), ((1,), (9, 49)), ((0,), (4, 49))])
        self.assertEqual(shares(plan, (1,), (10, 20), 0, 1), [((1,), (9, 13)), ((0,), (4, 13))])
        self.assertEqual(shares(plan, (1,), (10, 20), 0, 2), [((1,), (9, 14)), ((0,), (2, 7)), ((0, 1), (1, 14))])
        self.assertEqual(shares(plan, (1,), (10, 20), 10, 2),
                         [((1,), (1, 2)), ((), (2, 9)), ((0,), (2, 9)), ((0, 1), (1, 18))])

    def test_against_going_through_all_lots(self):
        self.held_against_all_lots(shares, slow_shares)

    def test_fractions_are_as_short_as_can_be(self):
        for plan, told, chances in CASES[:5]:
            for lot, (top, under) in shares(plan, told, chances, 10, 2):
                self.assertEqual(gcd(top, under), 1)
                self.assertTrue(0 < top <= under)

    def test_one_lot_alone_has_all(self):
        self.assertEqual(shares((2, ((0,), (1,))), (1, 0), (50, 50), 0, 2), [((0,), (1, 1))])
        self.assertEqual(shares((2, ()), (), (3, 4), 0, 0), [((), (1, 1))])
        self.assertEqual(shares((3, ()), (), (0, 100, 0), 0, 3), [((1,), (1, 1))])

    def test_lots_of_the_same_share_come_in_turn(self):
        given = shares((4, ()), (), EVEN, 20, 2)
        self.assertEqual([lot for lot, _ in given], slow_lots(4, 2))
        self.assertEqual({share for _, share in given}, {(1, 11)})
        given = shares((3, ((0,), (1, 2))), (1, 1), (50, 50, 50), 20, 2)
        self.assertEqual(given, [
            ((0, 1), (16, 49)), ((0, 2), (16, 49)),
            ((0,), (4, 49)), ((1,), (4, 49)), ((2,), (4, 49)), ((1, 2), (4, 49)),
            ((), (1, 49)),
        ])

    def test_the_greatest_ahead_of_the_fewest_things(self):
        given = shares((2, ()), (), (90, 80), 0, 2)
        self.assertEqual(given, [((0, 1), (18, 25)), ((0,), (9, 50)), ((1,), (2, 25)), ((), (1, 50))])

    def test_lots_that_can_not_be_so_are_left_out(self):
        self.assertEqual([lot for lot, _ in shares(PLAN, (None,) * 3, (0, 100, 0, 30), 5, 3)], [(1,), (1, 3)])
        self.assertEqual([lot for lot, _ in shares(PLAN, (1, 0, 0), EVEN, 0, 3)], [(0,)])

    def test_wrong_of_100_turns_each_answer(self):
        turned = shares(PLAN, (0, 0, 1), (10, 20, 30, 40), 100, 3)
        self.assertEqual(turned, shares(PLAN, (1, 1, 0), (10, 20, 30, 40), 0, 3))
        self.assertEqual([lot for lot, _ in turned], [(1,), (1, 2), (0, 2), (0, 1), (0, 1, 2)])

    def test_wrong_of_50_tells_nothing(self):
        self.assertEqual(shares(PLAN, (0, 1, 1), (10, 20, 30, 40), 50, 3),
                         shares(PLAN, (None,) * 3, (10, 20, 30, 40), 0, 3))

    def test_none_is_no_answer(self):
        for wrong in (0, 7, 100):
            self.assertEqual(shares(PLAN, (None, 1, None), (10, 20, 30, 40), wrong, 2),
                             shares((4, ((1, 2),)), (1,), (10, 20, 30, 40), wrong, 2))

    def test_what_it_tells_is_a_list_of_tuples(self):
        given = shares(PLAN, (1, 0, 0), EVEN, 5, 2)
        self.assertIs(given.__class__, list)
        for row in given:
            self.assertEqual([row.__class__, row[0].__class__, row[1].__class__], [tuple, tuple, tuple])
            self.assertEqual([part.__class__ for part in row[1]], [int, int])


class Each(GoingThrough, unittest.TestCase):
    def test_by_hand(self):
        plan = (2, ((0, 1),))
        self.assertEqual(each(plan, (1,), (10, 20), 0, 2), [(5, 14), (5, 7)])
        self.assertEqual(each(plan, (1,), (10, 20), 0, 1), [(4, 13), (9, 13)])
        self.assertEqual(each((3, ((0,), (1, 2))), (1, 1), (50, 50, 50), 20, 2), [(36, 49), (24, 49), (24, 49)])

    def test_0_and_1(self):
        self.assertEqual(each((3, ()), (), (0, 100, 50), 0, 3), [(0, 1), (1, 1), (1, 2)])
        self.assertEqual(each((2, ((0,), (1,))), (1, 0), (50, 50), 0, 2), [(1, 1), (0, 1)])
        self.assertEqual(each((3, ()), (), (50, 60, 70), 0, 0), [(0, 1), (0, 1), (0, 1)])

    def test_all_lots_or_not(self):
        # Each thing by itself, if all lots are looked at.
        self.assertEqual(each((3, ()), (), (10, 25, 50), 0, 3), [(1, 10), (1, 4), (1, 2)])
        self.assertNotEqual(each((3, ()), (), (10, 25, 50), 0, 2), [(1, 10), (1, 4), (1, 2)])

    def test_against_going_through_all_lots(self):
        self.held_against_all_lots(each, slow_each)

    def test_what_it_tells_is_a_list_of_fractions(self):
        given = each(PLAN, (1, 0, 0), EVEN, 5, 2)
        self.assertEqual([given.__class__] + [worth.__class__ for worth in given], [list] + [tuple] * 4)


class Tells(Refusing, unittest.TestCase):
    def test_by_hand(self):
        plan = (2, ((0, 1), (1,)))
        self.assertEqual(tells(plan, (10, 20), 0, 2), (7, 25))
        self.assertEqual(tells(plan, (10, 20), 0, 1), (13, 49))
        self.assertEqual(tells(plan, (10, 20), 1, 1), (9, 49))
        self.assertEqual(tells(plan, (10, 20), 1, 2), (1, 5))

    def test_0_and_1(self):
        plan = (3, ((0,), (1, 2), (0, 1)))
        self.assertEqual([tells(plan, (0, 100, 50), number, 3) for number in range(3)], [(0, 1), (1, 1), (1, 1)])
        self.assertEqual([tells(plan, (50, 50, 50), number, 0) for number in range(3)], [(0, 1)] * 3)

    def test_against_going_through_all_lots(self):
        for plan, _, chances in CASES:
            for most in range(4):
                rows = slow_chances(plan, (None,) * len(plan[1]), chances, 0, most)
                for number, probe in enumerate(plan[1]):
                    handed = (plan, chances, number, most)
                    if rows:
                        right = part_of(rows, lambda lot: not set(lot).isdisjoint(probe))
                        self.assertEqual(tells(*handed), right, handed)
                    else:
                        self.refused("NoLot", tells, *handed)

    def test_what_it_tells_is_a_fraction(self):
        given = tells(PLAN, EVEN, 0, 2)
        self.assertEqual([given.__class__] + [part.__class__ for part in given], [tuple, int, int])

    def test_numbers_of_probes(self):
        many = (4, ((0,),) * 16)
        for plan, last in [(PLAN, 2), (many, 15), ((4, ((0,),)), 0)]:
            self.assertEqual(tells(plan, EVEN, last, 1), tells(plan, EVEN, last, 1))
            for wrong in NO_NUMBERS + [-1, last + 1, 10 ** 30]:
                self.refused("BadCount", tells, plan, EVEN, wrong, 1)
        for wrong in (-1, 0, 1):
            self.refused("BadCount", tells, (4, ()), EVEN, wrong, 1)


class Refusals(Refusing, unittest.TestCase):
    def bad_chances(self, number, plan, *wrong):
        none = (None,) * len(plan[1])
        for chances in wrong:
            for call in (shares, each):
                self.refused_at("BadChances", number, call, plan, none, chances, 5, 1)
                self.refused_at("BadChances", number, call, plan, none, chances, 101, 4)
            for probe in (0, 99):
                self.refused_at("BadChances", number, tells, plan, chances, probe, 1)

    def test_one_too_few(self):
        self.bad_chances(3, PLAN, (5, 5, 5), (0, 100, 0))
        self.bad_chances(0, PLAN, ())
        self.bad_chances(1, PLAN, (5,))
        self.bad_chances(9, (10, ((0,),)), (5,) * 9)

    def test_one_too_many(self):
        self.bad_chances(4, PLAN, (5,) * 5, (5, 5, 5, 5, 101), (5, 5, 5, 5, None, None), (5,) * 30)
        self.bad_chances(10, (10, ((0,),)), (5,) * 11)

    def test_another_value(self):
        for chance in NO_NUMBERS + [-1, 101, 10 ** 30]:
            self.bad_chances(0, PLAN, (chance, 5, 5, 5), (chance, chance), (chance,), (chance, 5, 5, 5, 5))
            self.bad_chances(2, PLAN, (5, 5, chance, 5), (0, 100, chance), (5, 5, chance, chance, 5))
            self.bad_chances(3, PLAN, (5, 5, 5, chance), (5, 5, 5, chance, 5))

    def test_0_and_100_are_chances(self):
        self.assertEqual(shares(PLAN, (None,) * 3, (0, 100, 0, 0), 5, 1), [((1,), (1, 1))])

    def test_no_tuple(self):
        self.bad_chances(0, PLAN, *NO_TUPLES)
        self.bad_chances(0, PLAN, [5, 5, 5, 5], "5555", {0: 5})

    def test_wrong_0_to_100(self):
        for call in (shares, each):
            for wrong in (0, 1, 99, 100):
                call(PLAN, (1, 0, 0), EVEN, wrong, 2)
            for wrong in NO_NUMBERS + [-1, 101, 10 ** 30]:
                self.refused("BadCount", call, PLAN, (1, 0, 0), EVEN, wrong, 2)

    def test_most_0_to_3(self):
        for most in range(4):
            shares(PLAN, (None,) * 3, EVEN, 5, most)
            each(PLAN, (None,) * 3, EVEN, 5, most)
            tells(PLAN, EVEN, 0, most)
        for wrong in NO_NUMBERS + [-1, 4, 10 ** 30]:
            self.refused("BadCount", shares, PLAN, (None,) * 3, EVEN, 5, wrong)
            self.refused("BadCount", each, PLAN, (None,) * 3, EVEN, 5, wrong)
            self.refused("BadCount", tells, PLAN, EVEN, 0, wrong)

    def test_no_lot_may_be_so(self):
        for call in (shares, each):
            # More are bad for sure than are looked at.
            self.refused("NoLot", call, PLAN, (None,) * 3, (100, 100, 0, 5), 5, 1)
            # Two answers that gainsay each other, and none is wrong, or each is.
            self.refused("NoLot", call, (2, ((0,), (0,))), (0, 1), (5, 5), 0, 2)
            self.refused("NoLot", call, (2, ((0,), (0,))), (0, 1), (5, 5), 100, 2)
            # An answer that the chances gainsay.
            self.refused("NoLot", call, (2, ((0,),)), (1,), (0, 5), 0, 2)
        self.refused("NoLot", tells, PLAN, (100, 100, 0, 5), 0, 1)
        self.refused("NoLot", tells, PLAN, (5, 0, 0, 100), 0, 0)

    def test_no_lot_is_refused_last(self):
        sure_bad = (100, 100, 100, 100)
        for call in (shares, each):
            self.refused("NoLot", call, PLAN, (0, 0, 0), sure_bad, 0, 3)
            self.refused("BadAnswers", call, PLAN, (0, 0), sure_bad, 0, 3)
            self.refused("BadCount", call, PLAN, (0, 0, 0), sure_bad, 101, 3)
            self.refused("BadCount", call, PLAN, (0, 0, 0), sure_bad, 0, 4)
        self.refused("NoLot", tells, PLAN, sure_bad, 0, 3)
        self.refused("BadCount", tells, PLAN, sure_bad, 3, 3)
        self.refused("BadCount", tells, PLAN, sure_bad, 0, 4)


if __name__ == "__main__":
    unittest.main()
