"""Trees of probes, one behind the other: how they are read, and which are the best."""

from probelots.checks import MOST_THINGS, check_count, check_most, is_lot
from probelots.errors import BadTree
from probelots.lots import answer_of, lots_up_to

MOST_SEARCHED_THINGS = 6
MOST_SEARCHED_LOTS = 11


def read_tree(things, most, tree):
    """Tell (lot, how many probes till it's told) of all lots, in turn."""
    check_count(things, 1, MOST_THINGS)
    check_most(most)
    lots = lots_up_to(things, most)
    counts = {}
    places = [((), tree, lots)]
    while places:
        way, part, left = places.pop()
        if is_end(part, things, left):
            counts[left[0]] = len(way)
            continue
        if not is_fork(part, things):
            raise BadTree(way)
        zeros, ones = parted(left, part[1])
        if not zeros or not ones:
            raise BadTree(way)
        # The last place is taken next: the tree of 0 and all in it come ahead of the tree of 1.
        places.append((way + (1,), part[3], ones))
        places.append((way + (0,), part[2], zeros))
    return [(lot, counts[lot]) for lot in lots]


def is_end(part, things, left):
    """Whether it is ("lot", it), and just this lot is left."""
    if not isinstance(part, tuple) or len(part) != 2:
        return False
    word, lot = part
    # What is no lot may still equal one, as (True,) and (1,) do.
    return word == "lot" and is_lot(lot, things) and left == [lot]


def is_fork(part, things):
    """Whether it is ("probe", a lot, .., ..), whatever its two trees are."""
    if not isinstance(part, tuple) or len(part) != 4:
        return False
    return part[0] == "probe" and is_lot(part[1], things)


def parted(left, probe):
    """The lots by which the probe answers 0, and those by which it answers 1."""
    zeros = [lot for lot in left if answer_of(probe, lot) == 0]
    ones = [lot for lot in left if answer_of(probe, lot) == 1]
    return zeros, ones


def best_tree(things, most):
    """Tell (how many probes are needed at the most, a tree by which no more are)."""
    check_count(things, 1, MOST_SEARCHED_THINGS)
    check_most(most)
    lots = lots_up_to(things, most)
    check_count(len(lots), 1, MOST_SEARCHED_LOTS)
    probes = lots_up_to(things, things)[1:]
    hits = [bits_hit(probe, lots) for probe in probes]
    # Lots that are left are the bits of a number, so whatever a probe leaves of them has a lower one.
    best = [None]
    for left in range(1, 1 << len(lots)):
        best.append(best_from(left, lots, probes, hits, best))
    return best[-1]


def bits_hit(probe, lots):
    """The lots by which the probe answers 1, as bits."""
    return sum([1 << at for at, lot in enumerate(lots) if answer_of(probe, lot) == 1])


def best_from(left, lots, probes, hits, best):
    """(how many probes are needed, the tree), if these lots are left; best has those of all lower numbers."""
    found = None
    for probe, hit in zip(probes, hits):
        ones = left & hit
        zeros = left - ones
        if ones and zeros:
            need = 1 + max(best[zeros][0], best[ones][0])
            # Probes come in turn, so only one that needs less is better.
            if found is None or need < found[0]:
                found = (need, ("probe", probe, best[zeros][1], best[ones][1]))
    if found is None:
        # Any two lots are told apart by some probe, so just one is left here.
        return 0, ("lot", lots[left.bit_length() - 1])
    return found
