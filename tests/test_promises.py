"""Promise [1] and the order of refusals, over all functions."""

import copy
import itertools
import unittest

from probelots.chances import each, shares, tells
from probelots.desks import Desk
from probelots.notes import read, written
from probelots.plans import answers, beside, grid
from probelots.reading import apart, could, idle, kinds, sure
from probelots.trees import best_tree, read_tree
from tests.samples import NO_PLAN, NO_TOLD, Refusing, refusal, spoil

PLAN = (5, ((0, 1), (1, 2), (4,)))
TREE = ("probe", (0,), ("probe", (1,), ("lot", ()), ("lot", (1,))), ("lot", (0,)))


def made(plan, most, **named):
    """All that a new desk tells."""
    desk = Desk(plan, most, **named)
    return [desk.plan(), desk.answers(), desk.lots(), desk.book(), desk.is_idle()]


# Each function, and for each thing that is handed in what may be, what is refused, and by which name.
GOOD_PLAN = (PLAN, NO_PLAN, "BadPlan")
GOOD_TOLD = ((1, None, 0), NO_TOLD, "BadAnswers")
GOOD_MOST = (2, 4, "BadCount")
GOOD_CHANCES = ((10, 20, 0, 50, 100), [10, 20, 0, 50, 100], "BadChances")
CALLS = [
    (answers, [GOOD_PLAN, ((0, 4), [0, 4], "BadLot")]),
    (grid, [(2, 0, "BadCount"), (3, "3", "BadCount")]),
    (beside, [GOOD_PLAN, ((2, ()), (2, ((),)), "BadPlan")]),
    (could, [GOOD_PLAN, GOOD_TOLD, GOOD_MOST]),
    (sure, [GOOD_PLAN, GOOD_TOLD, GOOD_MOST]),
    (kinds, [GOOD_PLAN, GOOD_MOST]),
    (apart, [GOOD_PLAN, GOOD_MOST]),
    (idle, [GOOD_PLAN, GOOD_MOST]),
    (shares, [GOOD_PLAN, GOOD_TOLD, GOOD_CHANCES, (5, 101, "BadCount"), GOOD_MOST]),
    (each, [GOOD_PLAN, GOOD_TOLD, GOOD_CHANCES, (5, -1, "BadCount"), GOOD_MOST]),
    (tells, [GOOD_PLAN, GOOD_CHANCES, (2, 3, "BadCount"), GOOD_MOST]),
    (best_tree, [(3, 7, "BadCount"), GOOD_MOST]),
    (read_tree, [(2, 11, "BadCount"), (1, 4, "BadCount"), (TREE, list(TREE), "BadTree")]),
    (made, [GOOD_PLAN, GOOD_MOST]),
    (written, [GOOD_PLAN, GOOD_TOLD]),
    (read, [("things 2\n+ 0 1", "things 2\n+ 0 1\n", "BadText")]),
]
TAKING_SLIPS = (could, sure, made)

# Lists in every place, so that a change of what was handed in can be seen.
WITH_LISTS = [
    [5, [[0, 1], [2]]],
    (5, [[0, 1], [2]]),
    (5, ([0, 1], [2])),
    (5, ((0, 1), [2])),
    ([5], ((0, 1),)),
    (5, ((0, [1]),)),
]


def worth(handed):
    return [part[0] for part in handed]


def namings(call):
    """Slips as it may be handed in by name, or not at all."""
    return [{}, {"slips": 1}] if call in TAKING_SLIPS else [{}]


class OrderOfRefusals(Refusing, unittest.TestCase):
    def test_the_first_handed_in_is_refused_first(self):
        for call, handed in CALLS:
            for wrong in itertools.product((False, True), repeat=len(handed)):
                if any(wrong):
                    given = [part[1] if bad else part[0] for part, bad in zip(handed, wrong)]
                    first = handed[wrong.index(True)][2]
                    for named in namings(call):
                        self.refused(first, call, *given, **named)

    def test_slips_are_refused_behind_all_else(self):
        for call in TAKING_SLIPS:
            handed = dict(CALLS)[call]
            for at, part in enumerate(handed):
                given = worth(handed)
                given[at] = part[1]
                self.refused(part[2], call, *given, slips=17)
            self.refused("BadCount", call, *worth(handed), slips=17)

    def test_which_plan_is_refused_first(self):
        error = refusal(beside, (5, ((0,), ())), (0, ()))
        self.assertEqual(error.number, 1)
        error = refusal(beside, (5, []), (5, ((0,), ())))
        self.assertEqual(error.number, 0)


class NothingIsChanged(Refusing, unittest.TestCase):
    def test_what_was_handed_in_is_as_it_was(self):
        for call, handed in CALLS:
            for named in namings(call):
                given = worth(handed)
                ahead = copy.deepcopy(given)
                call(*given, **named)
                self.assertEqual(given, ahead)

    def test_what_was_refused_is_as_it_was(self):
        for call, handed in CALLS:
            for at in range(len(handed)):
                for wrong in WITH_LISTS:
                    given = worth(handed)
                    given[at] = copy.deepcopy(wrong)
                    self.refused(handed[at][2], call, *given)
                    self.assertEqual(given[at], wrong)

    def test_what_was_told_may_be_changed(self):
        for call, handed in CALLS:
            for named in namings(call):
                told = call(*worth(handed), **named)
                ahead = copy.deepcopy(told)
                spoil(told)
                self.assertEqual(call(*worth(handed), **named), ahead)

    def test_asked_again_the_same_is_told(self):
        for call, handed in CALLS:
            for named in namings(call):
                self.assertEqual(call(*worth(handed), **named), call(*worth(handed), **named))

    def test_a_refusal_changes_nothing(self):
        for call, handed in CALLS:
            ahead = call(*worth(handed))
            for at, part in enumerate(handed):
                given = worth(handed)
                given[at] = part[1]
                self.refused(part[2], call, *given)
                self.assertEqual(call(*worth(handed)), ahead)


if __name__ == "__main__":
    unittest.main()
