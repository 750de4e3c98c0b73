"""What may be so by some answers, and how well a plan tells lots apart."""

from itertools import combinations

from probelots.checks import check_answers, check_most, check_plan, check_slips
from probelots.lots import answers_of, lots_up_to, slips_in


def could(plan, told, most, *, slips=0):
    """Tell (lot, how many answers are slips) of all lots that may be so."""
    check_plan(plan)
    things, probes = plan
    check_answers(told, len(probes))
    check_most(most)
    check_slips(slips)
    counted = [(lot, slips_in(told, answers_of(probes, lot))) for lot in lots_up_to(things, most)]
    return [(lot, count) for lot, count in counted if count <= slips]


def sure(plan, told, most, *, slips=0):
    """Tell (the things that all lots that may be so have, those that none has), or None."""
    lots = [lot for lot, _ in could(plan, told, most, slips=slips)]
    if not lots:
        return None
    having = [how_many_have(thing, lots) for thing in range(plan[0])]
    in_all = [thing for thing, count in enumerate(having) if count == len(lots)]
    in_none = [thing for thing, count in enumerate(having) if count == 0]
    return in_all, in_none


def how_many_have(thing, lots):
    """How many of the lots have the thing."""
    return sum([1 for lot in lots if thing in lot])


def kinds(plan, most):
    """Tell how many unlike answers lots of up to most things have."""
    check_plan(plan)
    check_most(most)
    things, probes = plan
    return how_many_unlike(probes, lots_up_to(things, most))


def how_many_unlike(probes, lots):
    """How many unlike answers the probes give to the lots."""
    return len({answers_of(probes, lot) for lot in lots})


def apart(plan, most):
    """Tell (by how many answers two lots differ at the least, the one, the other), or None."""
    check_plan(plan)
    check_most(most)
    things, probes = plan
    lots = lots_up_to(things, most)
    given = [answers_of(probes, lot) for lot in lots]
    best = None
    for one, other in combinations(range(len(lots)), 2):
        gap = slips_in(given[one], given[other])
        # Pairs come in turn, so only a smaller gap is a better one.
        if best is None or gap < best[0]:
            best = (gap, lots[one], lots[other])
    return best


def idle(plan, most):
    """Tell the numbers of the probes without any one of which kinds is the same."""
    check_plan(plan)
    check_most(most)
    things, probes = plan
    lots = lots_up_to(things, most)
    whole = how_many_unlike(probes, lots)
    return [number for number in range(len(probes)) if how_many_unlike(without(probes, number), lots) == whole]


def without(probes, number):
    """All probes but one."""
    return probes[:number] + probes[number + 1:]
