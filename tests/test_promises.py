"""Promise [1] and the order of refusals, over all functions."""

import copy
import itertools
import unittest

from probelots.plans import answers, beside, grid
from probelots.reading import apart, could, idle, kinds, sure
from tests.samples import NO_PLAN, NO_TOLD, Refusing, refusal

PLAN = (5, ((0, 1), (1, 2), (4,)))

# Each function, and for each thing that is handed in what may be, what is refused, and by which name.
GOOD_PLAN = (PLAN, NO_PLAN, "BadPlan")
GOOD_TOLD = ((1, None, 0), NO_TOLD, "BadAnswers")
GOOD_MOST = (2, 4, "BadCount")
CALLS = [
    (answers, [GOOD_PLAN, ((0, 4), [0, 4], "BadLot")]),
    (grid, [(2, 0, "BadCount"), (3, "3", "BadCount")]),
    (beside, [GOOD_PLAN, ((2, ()), (2, ((),)), "BadPlan")]),
    (could, [GOOD_PLAN, GOOD_TOLD, GOOD_MOST]),
    (sure, [GOOD_PLAN, GOOD_TOLD, GOOD_MOST]),
    (kinds, [GOOD_PLAN, GOOD_MOST]),
    (apart, [GOOD_PLAN, GOOD_MOST]),
    (idle, [GOOD_PLAN, GOOD_MOST]),
]
TAKING_SLIPS = (could, sure)

# Lists in every place, so that a change of what was handed in can be seen.
WITH_LISTS = [
    [5, [[0, 1], [2]]],
    (5, [[0, 1], [2]]),
    (5, ([0, 1], [2])),
    (5, ((0, 1), [2])),
    ([5], ((0, 1),)),
    (5, ((0, [1]),)),
]


def worth(handed):
    return [part[0] for part in handed]


def namings(call):
    """Slips as it may be handed in by name, or not at all."""
    return [{}, {"slips": 1}] if call in TAKING_SLIPS else [{}]


def spoil(value):
    """Change all that can be changed of what was told."""
    if isinstance(value, (list, tuple)):
        for part in value:
            spoil(part)
    if isinstance(value, list):
        value.reverse()
        value.append("spoilt")
        value[0] = None


class OrderOfRefusals(Refusing, unittest.TestCase):
    def test_the_first_handed_in_is_refused_first(self):
        for call, handed in CALLS:
            for wrong in itertools.product((False, True), repeat=len(handed)):
                if any(wrong):
                    given = [part[1] if bad else part[0] for part, bad in zip(handed, wrong)]
                    first = handed[wrong.index(True)][2]
                    for named in namings(call):
                        self.refused(first, call, *given, **named)

    def test_slips_are_refused_behind_all_else(self):
        for call in TAKING_SLIPS:
            handed = dict(CALLS)[call]
            for at, part in enumerate(handed):
                given = worth(handed)
                given[at] = part[1]
                self.refused(part[2], call, *given, slips=17)
            self.refused("BadCount", call, *worth(handed), slips=17)

    def test_which_plan_is_refused_first(self):
        error = refusal(beside, (5, ((0,), ())), (0, ()))
        self.assertEqual(error.number, 1)
        error = refusal(beside, (5, []), (5, ((0,), ())))
        self.assertEqual(error.number, 0)


class NothingIsChanged(Refusing, unittest.TestCase):
    def test_what_was_handed_in_is_as_it_was(self):
        for call, handed in CALLS:
            for named in namings(call):
                given = worth(handed)
                ahead = copy.deepcopy(given)
                call(*given, **named)
                self.assertEqual(given, ahead)

    def test_what_was_refused_is_as_it_was(self):
        for call, handed in CALLS:
            for at in range(len(handed)):
                for wrong in WITH_LISTS:
                    given = worth(handed)
                    given[at] = copy.deepcopy(wrong)
                    self.refused(handed[at][2], call, *given)
                    self.assertEqual(given[at], wrong)

    def test_what_was_told_may_be_changed(self):
        for call, handed in CALLS:
            for named in namings(call):
                told = call(*worth(handed), **named)
                ahead = copy.deepcopy(told)
                spoil(told)
                self.assertEqual(call(*worth(handed), **named), ahead)

    def test_asked_again_the_same_is_told(self):
        for call, handed in CALLS:
            for named in namings(call):
                self.assertEqual(call(*worth(handed), **named), call(*worth(handed), **named))

    def test_a_refusal_changes_nothing(self):
        for call, handed in CALLS:
            ahead = call(*worth(handed))
            for at, part in enumerate(handed):
                given = worth(handed)
                given[at] = part[1]
                self.refused(part[2], call, *given)
                self.assertEqual(call(*worth(handed)), ahead)


if __name__ == "__main__":
    unittest.main()
