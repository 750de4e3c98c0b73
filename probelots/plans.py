"""Plans: what their probes answer, and how plans are made."""

from probelots.checks import MOST_PROBES, MOST_THINGS, check_count, check_lot, check_plan
from probelots.errors import BadPlan
from probelots.lots import answers_of


def answers(plan, lot):
    """Tell what all probes answer, if just the lot's things are bad."""
    check_plan(plan)
    things, probes = plan
    check_lot(lot, things)
    return answers_of(probes, lot)


def grid(rows, columns):
    """Tell the plan of things in rows and columns: a probe of each row, then of each column."""
    check_count(rows, 1, MOST_THINGS)
    check_count(columns, 1, MOST_THINGS)
    things = rows * columns
    check_count(things, 1, MOST_THINGS)
    across = [tuple(range(row * columns, (row + 1) * columns)) for row in range(rows)]
    down = [tuple(range(column, things, columns)) for column in range(columns)]
    return things, tuple(across + down)


def beside(one, other):
    """Tell the plan of the things and probes of one, and behind them those of the other."""
    check_plan(one)
    check_plan(other)
    first, its_probes = one
    second, more_probes = other
    if first + second > MOST_THINGS:
        raise BadPlan(-1)
    if len(its_probes) + len(more_probes) > MOST_PROBES:
        raise BadPlan(MOST_PROBES)
    return first + second, its_probes + moved(more_probes, first)


def moved(probes, by):
    """The same probes, of things with numbers that are higher."""
    return tuple([tuple([thing + by for thing in probe]) for probe in probes])
