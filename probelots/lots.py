"""Lots in their turn, and what they answer; all that comes here was checked before."""

from itertools import combinations


def lots_up_to(things, most):
    """All lots of up to most things, the fewest things first, then as they rise."""
    return [lot for size in range(most + 1) for lot in combinations(range(things), size)]


def answer_of(probe, lot):
    """What the probe answers, if just the lot's things are bad."""
    return 1 if any([thing in lot for thing in probe]) else 0


def answers_of(probes, lot):
    """What all probes answer, if just the lot's things are bad."""
    return tuple([answer_of(probe, lot) for probe in probes])


def slips_in(told, right):
    """How many of the answers told are other ones than the right ones."""
    # None is no answer, so it is no slip either.
    return sum([1 for one, other in zip(told, right) if one is not None and one != other])
