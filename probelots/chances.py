"""What may be so, each with its exact share, where chances are known."""

from math import gcd

from probelots.checks import HUNDRED, check_answers, check_chances, check_count, check_most, check_plan
from probelots.errors import NoLot
from probelots.lots import answer_of, answers_of, lots_up_to


def shares(plan, told, chances, wrong, most):
    """Tell (lot, share) of all lots that may be so, the greatest share first."""
    rows = checked_weights(plan, told, chances, wrong, most)
    total = sum_of(rows)
    # The rows come in turn, and sorting leaves those of one weight so.
    falling = sorted(rows, key=lambda row: -row[1])
    return [(lot, fraction(weight, total)) for lot, weight in falling]


def each(plan, told, chances, wrong, most):
    """Tell for each thing the sum of the shares of the lots that have it."""
    rows = checked_weights(plan, told, chances, wrong, most)
    total = sum_of(rows)
    having = [[row for row in rows if thing in row[0]] for thing in range(plan[0])]
    return [fraction(sum_of(part), total) for part in having]


def tells(plan, chances, number, most):
    """Tell the sum of the shares of the lots by which a probe answers 1, if nothing is told."""
    check_plan(plan)
    things, probes = plan
    check_chances(chances, things)
    check_count(number, 0, len(probes) - 1)
    check_most(most)
    nothing = (None,) * len(probes)
    rows = weights(plan, nothing, chances, 0, most)
    hit = [row for row in rows if answer_of(probes[number], row[0]) == 1]
    return fraction(sum_of(hit), sum_of(rows))


def checked_weights(plan, told, chances, wrong, most):
    """The weights, once all that was handed in is found to be right."""
    check_plan(plan)
    things, probes = plan
    check_answers(told, len(probes))
    check_chances(chances, things)
    check_count(wrong, 0, HUNDRED)
    check_most(most)
    return weights(plan, told, chances, wrong, most)


def weights(plan, told, chances, wrong, most):
    """(lot, weight) of all lots that may be so, in turn; refuse where there are none."""
    things, probes = plan
    rows = []
    for lot in lots_up_to(things, most):
        weight = lot_weight(lot, chances) * told_weight(told, answers_of(probes, lot), wrong)
        if weight > 0:
            rows.append((lot, weight))
    if not rows:
        raise NoLot("no lot may be so")
    return rows


def lot_weight(lot, chances):
    """The weight of just the lot's things being bad."""
    # The chance itself is this by a power of 100, but that is the same for all lots.
    weight = 1
    for thing, chance in enumerate(chances):
        weight = weight * (chance if thing in lot else HUNDRED - chance)
    return weight


def told_weight(told, right, wrong):
    """The weight of the answers told, where those given are the right ones."""
    weight = 1
    for one, other in zip(told, right):
        if one is not None:
            weight = weight * (HUNDRED - wrong if one == other else wrong)
    return weight


def sum_of(rows):
    """The sum of the weights of the rows."""
    return sum([weight for _, weight in rows])


def fraction(top, under):
    """The fraction (top, under), as short as can be."""
    common = gcd(top, under)
    return top // common, under // common
