"""Promises [9], [10] and [11]: desks, what changes them, and batches."""

import copy
import itertools
import unittest

from probelots.desks import Desk
from probelots.errors import Halted
from probelots.reading import could
from tests.samples import NO_NUMBERS, NO_TUPLES, Refusing, refusal, spoil

PLAN = (4, ((0, 1), (1, 2), (3,)))
MANY = (4, ((3,),) * 16)

# Deeds that are done, one behind the other, on a desk of PLAN, and what each tells by most of 2.
DEEDS = [("tell", 0, 1), ("probe", (0, 3)), ("tell", 3, 0), ("drop", 1), ("tell", 0, None), ("probe", (2,))]
TOLD = [-4, 3, -5, 0, 2, 3]

# Deeds that are refused wherever they come on that desk.
REFUSED = [("tell", -1, 0), ("tell", 16, 0), ("tell", True, 0), ("tell", None, 0), ("tell", (), 0), ("tell", "0", 0),
           ("tell", 0, 2), ("tell", 0, -1), ("tell", 0, True), ("tell", 0, "+"), ("tell", 0, [1]), ("tell", 17, 2),
           ("probe", ()), ("probe", (4,)), ("probe", (1, 0)), ("probe", [0]), ("probe", None), ("probe", 0),
           ("drop", -1), ("drop", 16), ("drop", False), ("drop", [0]), ("drop", None), ("drop", 0.0)]

# What is no tuple of a deed's word and so many things.
NO_DEEDS = NO_TUPLES + [
    (), ("tell",), ("tell", 0), ("tell", 0, 1, 1), ("probe",), ("probe", (0,), 1), ("probe", 0, 1), ("drop",),
    ("drop", 0, 0), ("batch", []), ("lots",), ("plan",), ("Tell", 0, 1), ("", 0), (0, 0), (0, 0, 0), (None, 0),
    (True, 0), (["tell"], 0, 1), (("tell",), 0, 1), ({}, 0), ({"drop": 0}, 0), ["tell", 0, 1], ["drop", 0], "drop",
    (b"drop", 0), (("drop", 0),),
]


def stand(desk):
    """How the desk stands, all but its book."""
    return desk.plan(), desk.answers(), desk.lots(), desk.is_idle()


def all_of(desk):
    return stand(desk) + (desk.book(),)


def lots_of(plan, told, most, slips=0):
    return [lot for lot, _ in could(plan, told, most, slips=slips)]


def do(desk, deed):
    word, *parts = deed
    return {"tell": desk.tell, "probe": desk.probe, "drop": desk.drop}[word](*parts)


class Making(Refusing, unittest.TestCase):
    def test_as_it_is_made(self):
        desk = Desk(PLAN, 1)
        self.assertEqual(desk.plan(), PLAN)
        self.assertEqual(desk.answers(), (None, None, None))
        self.assertEqual(desk.lots(), [(), (0,), (1,), (2,), (3,)])
        self.assertEqual(desk.book(), [])
        self.assertIs(desk.is_idle(), True)

    def test_no_probes(self):
        desk = Desk((2, ()), 3)
        self.assertEqual((desk.plan(), desk.answers(), desk.lots()), ((2, ()), (), [(), (0,), (1,), (0, 1)]))

    def test_what_is_told_is_of_its_kind(self):
        desk = Desk(PLAN, 1)
        self.assertEqual([desk.plan().__class__, desk.plan()[1].__class__, desk.answers().__class__], [tuple] * 3)
        self.assertEqual([desk.lots().__class__, desk.book().__class__], [list] * 2)
        self.assertEqual([desk.tell(0, 1).__class__, desk.probe((0,)).__class__, desk.drop(0).__class__], [int] * 3)

    def test_plans_that_are_refused(self):
        self.refused_at("BadPlan", -1, Desk, [4, ()], 1)
        self.refused_at("BadPlan", -1, Desk, (11, ()), 1)
        self.refused_at("BadPlan", 0, Desk, (4, [(0,)]), 1)
        self.refused_at("BadPlan", 1, Desk, (4, ((0,), ())), 1)
        self.refused_at("BadPlan", 16, Desk, (4, ((0,),) * 17), 1)

    def test_most_that_is_refused(self):
        for most in range(4):
            self.assertEqual(Desk(PLAN, most).lots(), lots_of(PLAN, (None,) * 3, most))
        for most in NO_NUMBERS + [-1, 4, 10 ** 30]:
            self.refused("BadCount", Desk, PLAN, most)
            self.refused("BadCount", Desk, PLAN, most, slips=17)

    def test_slips_that_are_refused(self):
        for slips in (0, 1, 15, 16):
            Desk(PLAN, 1, slips=slips)
        for slips in NO_NUMBERS + [-1, 17, 10 ** 30]:
            self.refused("BadCount", Desk, PLAN, 1, slips=slips)
            self.refused_at("BadPlan", -1, Desk, None, 1, slips=slips)


class Tell(Refusing, unittest.TestCase):
    def test_each_answer(self):
        for number in range(3):
            for answer in (0, 1, None):
                desk = Desk(PLAN, 2)
                desk.tell(number, answer)
                told = [None, None, None]
                told[number] = answer
                self.assertEqual(desk.answers(), tuple(told))
                self.assertEqual(desk.lots(), lots_of(PLAN, tuple(told), 2))

    def test_how_many_lots_more(self):
        desk = Desk(PLAN, 1)
        self.assertEqual([desk.tell(0, 1), desk.tell(1, 1), desk.tell(2, 0)], [-3, -1, 0])
        self.assertEqual(desk.lots(), [(1,)])
        self.assertEqual([desk.tell(1, None), desk.tell(0, None), desk.tell(2, None)], [1, 2, 1])
        self.assertEqual(desk.answers(), (None,) * 3)

    def test_told_otherwise_and_again(self):
        desk = Desk(PLAN, 1)
        self.assertEqual([desk.tell(0, 1), desk.tell(0, 0), desk.tell(0, 0), desk.tell(0, 1)], [-3, 1, 0, -1])
        self.assertEqual(desk.answers(), (1, None, None))

    def test_none_where_no_answer_was(self):
        desk = Desk(PLAN, 1)
        self.assertEqual(desk.tell(1, None), 0)
        self.assertEqual(desk.answers(), (None,) * 3)

    def test_none_left(self):
        desk = Desk((2, ((0,), (0,))), 1)
        self.assertEqual([desk.tell(0, 1), desk.tell(1, 0)], [-2, -1])
        self.assertEqual(desk.lots(), [])
        self.assertEqual(desk.tell(0, None), 2)

    def test_with_slips(self):
        desk = Desk(PLAN, 1, slips=1)
        self.assertEqual([desk.tell(0, 1), desk.tell(1, 1), desk.tell(2, 0)], [0, -2, 0])
        self.assertEqual(desk.lots(), lots_of(PLAN, (1, 1, 0), 1, 1))

    def test_no_number_of_a_probe(self):
        desk = Desk(PLAN, 1)
        for number in NO_NUMBERS + [-1, 3, 10 ** 30]:
            for answer in (0, 1, None, 2):
                self.refused("BadCount", desk.tell, number, answer)
        self.refused("BadCount", Desk((4, ()), 1).tell, 0, 0)
        desk.tell(2, 1)

    def test_no_answer(self):
        desk = Desk(PLAN, 1)
        for answer in NO_NUMBERS + [-1, 2, 10 ** 30]:
            if answer is not None:
                self.refused("BadCount", desk.tell, 0, answer)
                self.refused("BadCount", desk.tell, 3, answer)
        self.assertEqual(desk.answers(), (None,) * 3)


class Drop(Refusing, unittest.TestCase):
    def test_in_the_midst(self):
        desk = Desk((4, ((0,), (1,), (2,), (3,))), 1)
        for number, answer in enumerate((0, 1, 0, None)):
            desk.tell(number, answer)
        desk.drop(1)
        self.assertEqual(desk.plan(), (4, ((0,), (2,), (3,))))
        self.assertEqual(desk.answers(), (0, 0, None))
        # The numbers behind it are one less.
        desk.tell(2, 1)
        self.assertEqual(desk.answers(), (0, 0, 1))
        self.assertEqual(desk.lots(), [(3,)])
        self.refused("BadCount", desk.drop, 3)

    def test_how_many_lots_more(self):
        desk = Desk(PLAN, 1)
        desk.tell(0, 1)
        desk.tell(1, 1)
        self.assertEqual([desk.drop(2), desk.drop(0), desk.drop(0)], [0, 1, 3])
        self.assertEqual((desk.plan(), desk.answers()), ((4, ()), ()))
        self.refused("BadCount", desk.drop, 0)

    def test_with_slips(self):
        desk = Desk((3, ((0,), (0,), (0, 1))), 1, slips=1)
        desk.tell(0, 1)
        desk.tell(1, 1)
        self.assertEqual(desk.lots(), [(0,)])
        self.assertEqual(desk.drop(0), 3)

    def test_no_number_of_a_probe(self):
        desk = Desk(PLAN, 1)
        for number in NO_NUMBERS + [-1, 3, 10 ** 30]:
            self.refused("BadCount", desk.drop, number)
        self.assertEqual(desk.plan(), PLAN)


class Probe(Refusing, unittest.TestCase):
    def test_one_more_behind(self):
        desk = Desk(PLAN, 1)
        desk.tell(2, 1)
        self.assertEqual(desk.probe((0, 1, 2, 3)), 3)
        self.assertEqual(desk.plan(), (4, PLAN[1] + ((0, 1, 2, 3),)))
        self.assertEqual(desk.answers(), (None, None, 1, None))
        self.assertEqual(desk.lots(), [(3,)])
        self.assertEqual(desk.tell(3, 0), -1)

    def test_up_to_sixteen(self):
        desk = Desk((4, ()), 1)
        self.assertEqual([desk.probe((3,)) for _ in range(16)], list(range(16)))
        self.assertEqual(desk.plan(), MANY)
        for lot in NO_TUPLES + [(0,), (3,), (), (4,), (1, 0)]:
            self.refused_at("BadPlan", 16, desk.probe, lot)
        self.assertEqual((desk.plan(), desk.answers()), (MANY, (None,) * 16))
        desk.drop(3)
        self.assertEqual(desk.probe((0,)), 15)

    def test_a_lot_that_can_not_be(self):
        for plan in ((4, ()), PLAN, (4, ((3,),) * 15)):
            desk = Desk(plan, 1)
            for lot in NO_TUPLES + [(), (4,), (0, 4), (-1,), (1, 0), (0, 0), (True,), (0, None), ("0",), [0], ((0,),)]:
                self.refused_at("BadPlan", len(plan[1]), desk.probe, lot)
            self.assertEqual(desk.plan(), plan)
            self.assertEqual(len(desk.answers()), len(plan[1]))


class Batch(Refusing, unittest.TestCase):
    def halted(self, desk, deeds, number, done, **named):
        error = self.refused("Halted", desk.batch, deeds, **named)
        self.assertEqual((error.number, error.done), (number, done), deeds)
        self.assertEqual((error.number.__class__, error.done.__class__), (int, int))

    def behind(self, deeds):
        """A desk on which the deeds were done without a batch."""
        desk = Desk(PLAN, 2)
        for deed in deeds:
            do(desk, deed)
        return desk

    def test_what_each_told(self):
        for named in ({}, {"keep": True}, {"keep": False}):
            desk, slow = Desk(PLAN, 2), Desk(PLAN, 2)
            told = desk.batch(list(DEEDS), **named)
            self.assertEqual(told, TOLD)
            self.assertEqual(told.__class__, list)
            self.assertEqual([do(slow, deed) for deed in DEEDS], TOLD)
            self.assertEqual(stand(desk), stand(slow))
            self.assertEqual(desk.book(), ["begun", "tell", "probe", "tell", "drop", "tell", "probe", "ended"])

    def test_by_hand(self):
        desk = Desk((3, ((0,), (1, 2))), 1)
        self.assertEqual(desk.batch([("tell", 0, 0), ("probe", (2,)), ("tell", 2, 1), ("drop", 0)]), [-1, 2, -2, 0])
        self.assertEqual(desk.plan(), (3, ((1, 2), (2,))))
        self.assertEqual(desk.answers(), (None, 1))
        self.assertEqual(desk.lots(), [(2,)])
        self.assertEqual(desk.book(), ["begun", "tell", "probe", "tell", "drop", "ended"])

    def test_the_empty_batch(self):
        for named in ({}, {"keep": True}, {"keep": False}):
            desk = Desk(PLAN, 2)
            ahead = stand(desk)
            self.assertEqual(desk.batch([], **named), [])
            self.assertEqual(stand(desk), ahead)
            self.assertEqual(desk.book(), ["begun", "ended"])

    def test_refused_at_each_place(self):
        for at, wrong in itertools.product(range(len(DEEDS) + 1), REFUSED):
            deeds = DEEDS[:at] + [wrong] + DEEDS[at:]
            words = ["begun"] + [deed[0] for deed in DEEDS[:at]] + ["ended"]
            for named in ({}, {"keep": True}):
                desk = Desk(PLAN, 2)
                self.halted(desk, deeds, at, at, **named)
                self.assertEqual(stand(desk), stand(self.behind(DEEDS[:at])))
                self.assertEqual(desk.book(), words)
            desk = Desk(PLAN, 2)
            self.halted(desk, deeds, at, 0, keep=False)
            self.assertEqual(stand(desk), stand(Desk(PLAN, 2)))
            self.assertEqual(desk.book(), words)

    def test_a_seventeenth_probe(self):
        desk = Desk((4, ((3,),) * 15), 1)
        self.halted(desk, [("probe", (0,)), ("probe", (0,))], 1, 0, keep=False)
        self.assertEqual(desk.plan(), (4, ((3,),) * 15))
        self.halted(desk, [("probe", (0,)), ("probe", (0,))], 1, 1)
        self.assertEqual(desk.plan(), (4, ((3,),) * 15 + ((0,),)))

    def test_numbers_are_of_the_plan_as_it_stands_then(self):
        desk = Desk((4, ()), 1)
        self.assertEqual(desk.batch([("probe", (0,)), ("tell", 0, 1), ("drop", 0)]), [0, -4, 4])
        self.halted(desk, [("probe", (0,)), ("drop", 0), ("tell", 0, 1)], 2, 2)

    def test_all_is_as_it_was_ahead(self):
        desk = self.behind(DEEDS[:3])
        ahead = stand(desk)
        deeds = [("drop", 0), ("drop", 0), ("tell", 0, 1), ("probe", (1, 3)), ("tell", 1, 1), ("tell", 4, 1)]
        self.halted(desk, deeds, 5, 0, keep=False)
        self.assertEqual(stand(desk), ahead)
        self.assertEqual(desk.book(), ["begun", "drop", "drop", "tell", "probe", "tell", "ended"])
        # What is done later is done to the desk as it was, and stands.
        self.assertEqual(desk.batch([("tell", 1, 0)], keep=False), [self.behind(DEEDS[:3]).tell(1, 0)])
        self.assertEqual(desk.answers(), (1, 0, None, 0))

    def test_taken_back_twice(self):
        desk = Desk(PLAN, 2)
        for _ in range(2):
            self.halted(desk, [("drop", 0), ("tell", 0, 1), ("drop", 2)], 2, 0, keep=False)
            self.assertEqual(stand(desk), stand(Desk(PLAN, 2)))
        self.halted(desk, [("drop", 0), ("tell", 0, 1), ("drop", 2)], 2, 2, keep=True)
        self.assertEqual((desk.plan(), desk.answers()), ((4, PLAN[1][1:]), (1, None)))
        self.halted(desk, [("probe", (0,)), ("tell", 5, 1)], 1, 0, keep=False)
        self.assertEqual((desk.plan(), desk.answers()), ((4, PLAN[1][1:]), (1, None)))

    def test_what_is_no_list(self):
        desk = Desk(PLAN, 2)
        for deeds in [None, 0, 1, True, "", "tell", (), (("drop", 0),), {}, {"drop": 0}, 2.5, ("drop", 0)]:
            for named in ({}, {"keep": False}):
                self.refused_at("BadDeed", 0, desk.batch, deeds, **named)
        self.assertEqual(all_of(desk), stand(Desk(PLAN, 2)) + ([],))

    def test_what_is_no_deed(self):
        for at, wrong in itertools.product((0, 1, len(DEEDS)), NO_DEEDS):
            for later in ([], [None], REFUSED[:1]):
                for named in ({}, {"keep": False}):
                    desk = Desk(PLAN, 2)
                    deeds = DEEDS[:at] + [wrong] + DEEDS[at:] + later
                    self.refused_at("BadDeed", at, desk.batch, deeds, **named)
                    self.assertEqual(all_of(desk), stand(Desk(PLAN, 2)) + ([],))

    def test_no_deed_ahead_of_all_that_is_refused(self):
        desk = Desk(PLAN, 2)
        desk.batch([("tell", 1, 1)])
        ahead = all_of(desk)
        for wrong in NO_DEEDS:
            self.refused_at("BadDeed", 3, desk.batch, [("drop", 0), ("drop", 99), ("probe", ()), wrong])
        self.assertEqual(all_of(desk), ahead)

    def test_the_book_of_many_batches(self):
        desk = Desk(PLAN, 2)
        desk.tell(0, 1)
        desk.batch([("drop", 1)])
        desk.drop(0)
        refusal(desk.batch, [("probe", (0,)), ("probe", ())], keep=False)
        refusal(desk.batch, [("probe", (0,)), ("prob", (0,))])
        refusal(desk.batch, [("tell", 0, 5)])
        desk.probe((1,))
        desk.batch([])
        self.assertEqual(desk.book(),
                         ["begun", "drop", "ended", "begun", "probe", "ended", "begun", "ended", "begun", "ended"])

    def test_idle_whenever_none_is_under_way(self):
        desk = Desk(PLAN, 2)
        for deeds in ([], DEEDS, [("drop", 9)], [()], None, [("drop", 0), ("drop", 0), ("tell", 0, 1), ("tell", 7, 1)]):
            for keep in (True, False):
                try:
                    desk.batch(deeds, keep=keep)
                except ValueError:
                    pass
                self.assertIs(desk.is_idle(), True)

    def test_not_idle_while_one_is(self):
        seen = []

        class Watched(Desk):
            def tell(self, number, answer):
                seen.append((self.is_idle(), self.book()))
                return super().tell(number, answer)

        desk = Watched(PLAN, 2)
        desk.batch([("drop", 0), ("tell", 0, 1)])
        refusal(desk.batch, [("tell", 9, 1)])
        desk.tell(0, 1)
        ended = ["begun", "drop", "tell", "ended"]
        self.assertEqual(seen, [
            (False, ["begun", "drop"]),
            (False, ended + ["begun"]),
            (True, ended + ["begun", "ended"]),
        ])

    def test_halted_by_itself(self):
        desk = Desk(PLAN, 2)
        error = refusal(desk.batch, [("drop", 0), ("drop", 7)])
        self.assertIs(error.__class__, Halted)
        self.assertEqual((error.number, error.done), (1, 1))


class Desks(Refusing, unittest.TestCase):
    def test_a_refusal_changes_nothing(self):
        desk = Desk(PLAN, 2)
        desk.batch(DEEDS[:3])
        ahead = all_of(desk)
        for deed in REFUSED:
            self.assertRaises(ValueError, do, desk, deed)
            self.assertEqual(all_of(desk), ahead)
        for deeds in [None] + [[deed] for deed in NO_DEEDS]:
            self.refused_at("BadDeed", 0, desk.batch, deeds)
            self.assertEqual(all_of(desk), ahead)

    def test_each_stands_by_itself(self):
        one, other = Desk(PLAN, 2), Desk(PLAN, 2)
        one.tell(0, 1)
        self.assertEqual(all_of(other), all_of(Desk(PLAN, 2)))
        other.drop(0)
        self.assertEqual((one.plan(), one.answers()), (PLAN, (1, None, None)))
        one.batch([("probe", (0,)), ("drop", 1)])
        self.assertEqual((other.plan(), other.answers()), ((4, PLAN[1][1:]), (None, None)))
        refusal(other.batch, [("tell", 1, 1), ("tell", 2, 0)])
        self.assertEqual(one.book(), ["begun", "probe", "drop", "ended"])
        self.assertEqual(other.book(), ["begun", "tell", "ended"])
        self.assertEqual((one.answers(), other.answers()), ((1, None, None), (None, 1)))

    def test_what_was_handed_in_is_as_it_was(self):
        wrong = [[("probe", [0]), ["drop", 0]], [("probe", [0])]]
        for deeds in [DEEDS, DEEDS + [("drop", 9)], DEEDS + [("drop",)]] + wrong:
            for keep in (True, False):
                given = copy.deepcopy(deeds)
                try:
                    Desk(PLAN, 2).batch(given, keep=keep)
                except ValueError:
                    pass
                self.assertEqual(given, deeds)

    def test_deeds_that_are_changed_later(self):
        desk = Desk(PLAN, 2)
        deeds = list(DEEDS)
        told = desk.batch(deeds)
        ahead = all_of(desk)
        deeds.clear()
        told.append(9)
        self.assertEqual(all_of(desk), ahead)
        lot = [0]
        self.refused("Halted", desk.batch, [("tell", 0, 1), ("probe", lot)])
        ahead = all_of(desk)
        lot.append(1)
        self.assertEqual(all_of(desk), ahead)

    def test_what_was_told_may_be_changed(self):
        desk = Desk(PLAN, 2)
        given = desk.batch(list(DEEDS))
        self.assertEqual(desk.batch([("tell", 0, None)]), [0])
        ahead = copy.deepcopy(all_of(desk))
        for told in (given, desk.plan(), desk.answers(), desk.lots(), desk.book(), desk.lots(), desk.book()):
            spoil(told)
            self.assertEqual(all_of(desk), ahead)

    def test_asked_again_the_same_is_told(self):
        desk = self.used()
        self.assertEqual(all_of(desk), all_of(desk))
        self.assertEqual(all_of(desk), all_of(self.used()))

    def used(self):
        desk = Desk(PLAN, 2, slips=1)
        desk.batch(list(DEEDS))
        refusal(desk.batch, [("tell", 1, 1), ("drop", 9)], keep=False)
        return desk


if __name__ == "__main__":
    unittest.main()
