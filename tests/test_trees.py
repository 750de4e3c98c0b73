"""Promises [7] and [8]: trees, how they are read, and the best ones."""

import functools
import itertools
import unittest

from probelots.trees import best_tree, read_tree
from tests.samples import NO_NUMBERS, NO_TUPLES, Refusing, slow_lots

# All that best_tree takes.
TAKEN = [(things, most) for things in range(1, 7) for most in range(4) if len(slow_lots(things, most)) <= 11]


def parted(left, probe):
    ones = [lot for lot in left if set(lot) & set(probe)]
    return [lot for lot in left if lot not in ones], ones


def splits(left, things):
    """(probe, the lots left by 0, those left by 1) of all probes that leave some by both."""
    for probe in slow_lots(things, things):
        zeros, ones = parted(left, probe)
        if zeros and ones:
            yield probe, tuple(zeros), tuple(ones)


@functools.lru_cache(maxsize=None)
def slow_need(left, things):
    """How many probes are needed, if these lots are left."""
    if len(left) == 1:
        return 0
    return 1 + min(max(slow_need(zeros, things), slow_need(ones, things)) for _, zeros, ones in splits(left, things))


def slow_tree(left, things):
    """The tree with the first lot at each place by which no more probes are needed than must be."""
    if len(left) == 1:
        return "lot", left[0]
    for probe, zeros, ones in splits(left, things):
        if 1 + max(slow_need(zeros, things), slow_need(ones, things)) == slow_need(left, things):
            return "probe", probe, slow_tree(zeros, things), slow_tree(ones, things)


def singles(left, things):
    """A tree that probes one thing behind the other, the last one first."""
    for thing in reversed(range(things)):
        zeros, ones = parted(left, (thing,))
        if zeros and ones:
            return "probe", (thing,), singles(zeros, things), singles(ones, things)
    return "lot", left[0]


def ways(tree):
    """The ways of all places, a tree ahead of those in it, that of 0 ahead of that of 1."""
    yield ()
    if tree[0] == "probe":
        for answer in (0, 1):
            for way in ways(tree[2 + answer]):
                yield (answer,) + way


def place(tree, way):
    for answer in way:
        tree = tree[2 + answer]
    return tree


def replaced(tree, way, part):
    """The tree with another part at a place, or what was there, where nothing is any more."""
    if not way:
        return part
    parts = list(tree)
    parts[2 + way[0]] = replaced(tree[2 + way[0]], way[1:], part)
    return tuple(parts)


def wrong_parts(part, things):
    """What can't be in the place of a part of a tree."""
    yield from NO_TUPLES + [(), ("lot",), ("probe",), (part,), part + (part,), part[:-1], list(part)]
    yield from [(word,) + part[1:] for word in ["", "Lot", "lots", "Probe", "tree", 0, None, True, (), ["lot"], b"lot"]]
    yield ("probe" if part[0] == "lot" else "lot",) + part[1:]
    yield part[:1] + part[:1:-1] + part[1:2] if part[0] == "probe" else part[::-1]
    for lot in [(things,), (0, things), (-1,), (1, 0), (0, 0), (True,), (0, True), (1.0,), ("0",), ((0,),), (None,)]:
        yield (part[0], lot) + part[2:]
    yield from [(part[0], lot) + part[2:] for lot in NO_TUPLES]
    if part[0] == "probe":
        # By the first no answer 1 is left, by the other trees more than one lot is.
        yield ("probe", ()) + part[2:]
        yield from [("lot", lot) for lot in slow_lots(things, 1)]
        yield from [part[:3], part + (("lot", ()),)]
    else:
        yield from [("lot", lot) for lot in slow_lots(things, things) if lot != part[1]]
        yield from [("probe", probe, part, part) for probe in slow_lots(things, things)]
        yield part + ((),)


class ReadTree(Refusing, unittest.TestCase):
    def bad(self, way, things, most, tree):
        error = self.refused("BadTree", read_tree, things, most, tree)
        self.assertEqual((error.way, error.way.__class__), (way, tuple), (things, most, tree))

    def test_by_hand(self):
        tree = ("probe", (0, 2), ("probe", (1,), ("lot", ()), ("lot", (1,))),
                ("probe", (2,), ("lot", (0,)), ("lot", (2,))))
        self.assertEqual(read_tree(3, 1, tree), [((), 2), ((0,), 2), ((1,), 2), ((2,), 2)])
        tree = ("probe", (2,), ("probe", (1,), ("probe", (0,), ("lot", ()), ("lot", (0,))), ("lot", (1,))),
                ("lot", (2,)))
        self.assertEqual(read_tree(3, 1, tree), [((), 3), ((0,), 3), ((1,), 2), ((2,), 1)])

    def test_the_turn_of_lots(self):
        for things, most in [(1, 0), (1, 3), (4, 2), (3, 3), (10, 1), (10, 3), (7, 3)]:
            lots = slow_lots(things, most)
            given = read_tree(things, most, singles(lots, things))
            self.assertEqual([lot for lot, _ in given], lots)

    def test_how_many_probes(self):
        # With one bad at the most, the last thing is told by one probe, the first by all.
        given = read_tree(10, 1, singles(slow_lots(10, 1), 10))
        self.assertEqual(given, [((), 10)] + [((thing,), 10 - thing) for thing in range(10)])
        given = read_tree(3, 3, singles(slow_lots(3, 3), 3))
        self.assertEqual([count for _, count in given], [3] * 8)

    def test_one_lot_alone(self):
        for things in (1, 5, 10):
            self.assertEqual(read_tree(things, 0, ("lot", ())), [((), 0)])
        self.bad((), 5, 0, ("lot", (0,)))
        self.bad((), 5, 0, ("probe", (0,), ("lot", ()), ("lot", (0,))))
        self.bad((), 5, 1, ("lot", ()))

    def test_most_above_the_things(self):
        tree = ("probe", (0,), ("lot", ()), ("lot", (0,)))
        for most in (1, 2, 3):
            self.assertEqual(read_tree(1, most, tree), [((), 1), ((0,), 1)])

    def test_what_it_tells_is_a_list_of_tuples(self):
        given = read_tree(1, 1, ("probe", (0,), ("lot", ()), ("lot", (0,))))
        self.assertEqual([given.__class__, given[0].__class__, given[0][1].__class__], [list, tuple, int])

    def test_bounds_of_things_and_most(self):
        for things in NO_NUMBERS + [0, -1, 11, 10 ** 30]:
            self.refused("BadCount", read_tree, things, 0, ("lot", ()))
            self.refused("BadCount", read_tree, things, 9, ("lot",))
        for most in NO_NUMBERS + [-1, 4, 10 ** 30]:
            self.refused("BadCount", read_tree, 1, most, ("lot", ()))
            self.refused("BadCount", read_tree, 10, most, None)

    def test_what_is_no_tree_at_all(self):
        for tree in NO_TUPLES + [(), ("lot",), ("probe",), ((),), ("lot", (), ()), "lot"]:
            self.bad((), 3, 1, tree)
            self.bad((), 3, 0, tree)

    def test_one_thing_that_can_not_be(self):
        for things, most in [(1, 1), (2, 2), (3, 1), (3, 2)]:
            lots = slow_lots(things, most)
            for tree in (singles(lots, things), best_tree(things, most)[1]):
                for way in ways(tree):
                    for part in wrong_parts(place(tree, way), things):
                        self.bad(way, things, most, replaced(tree, way, part))

    def test_two_things_that_can_not_be(self):
        tree = best_tree(3, 3)[1]
        turn = list(ways(tree))
        self.assertEqual(len(turn), 15)
        for one, other in itertools.combinations(turn, 2):
            for wrong in (None, ("lot",), ("probe", (7,), (), ())):
                if other[:len(one)] == one:
                    continue
                self.bad(one, 3, 3, replaced(replaced(tree, one, wrong), other, wrong))

    def test_a_tree_ahead_of_those_in_it(self):
        good = best_tree(3, 1)[1]
        self.assertEqual(len(list(ways(good))), 7)
        for way in ((0,), (1,), (0, 0), (0, 1), (1, 0), (1, 1)):
            worse = replaced(good, way, None)
            self.bad(way, 3, 1, worse)
            for up in range(len(way)):
                part = place(worse, way[:up])
                self.bad(way[:up], 3, 1, replaced(worse, way[:up], ("prob",) + part[1:]))
                self.bad(way[:up], 3, 1, replaced(worse, way[:up], ("probe", (3,)) + part[2:]))
                self.bad(way[:up], 3, 1, replaced(worse, way[:up], part + (None,)))

    def test_a_probe_by_one_of_whose_answers_no_lot_is_left(self):
        none = ("lot", ())
        # Thing 0 was probed before, so only 0 is answered, and then only 1.
        again = ("probe", (0,), ("probe", (0,), none, none), ("lot", (0,)))
        self.bad((0,), 2, 1, again)
        again = ("probe", (0,), ("probe", (1,), none, ("lot", (1,))), ("probe", (0,), none, ("lot", (0,))))
        self.bad((1,), 2, 1, again)
        self.bad((), 2, 1, ("probe", (), none, none))

    def test_a_lot_where_more_than_one_is_left(self):
        self.bad((0,), 2, 1, ("probe", (0,), ("lot", ()), ("lot", (0,))))
        self.bad((0,), 2, 1, ("probe", (0,), ("lot", (1,)), ("lot", (0,))))
        self.bad((1,), 2, 2, ("probe", (0,), ("probe", (1,), ("lot", ()), ("lot", (1,))), ("lot", (0,))))

    def test_the_other_lot(self):
        self.bad((0,), 1, 1, ("probe", (0,), ("lot", (0,)), ("lot", ())))
        self.bad((1,), 1, 1, ("probe", (0,), ("lot", ()), ("lot", ())))

    def test_a_truth_is_no_thing(self):
        self.bad((), 2, 1, ("probe", (True,), ("lot", ()), ("lot", (1,))))
        self.bad((1,), 1, 1, ("probe", (0,), ("lot", ()), ("lot", (False,))))
        self.bad((1,), 1, 1, ("probe", (0,), ("lot", ()), ("lot", (0.0,))))

    def test_a_deep_place(self):
        lots = slow_lots(10, 1)
        tree = singles(lots, 10)
        for depth in range(10):
            self.bad((0,) * depth, 10, 1, replaced(tree, (0,) * depth, 5))
            self.bad((0,) * depth + (1,), 10, 1, replaced(tree, (0,) * depth + (1,), ("lot", ())))


class BestTree(Refusing, unittest.TestCase):
    def test_by_hand(self):
        self.assertEqual(best_tree(1, 0), (0, ("lot", ())))
        self.assertEqual(best_tree(1, 1), (1, ("probe", (0,), ("lot", ()), ("lot", (0,)))))
        self.assertEqual(best_tree(3, 1), (2, (
            "probe", (0, 1),
            ("probe", (2,), ("lot", ()), ("lot", (2,))),
            ("probe", (0,), ("lot", (1,)), ("lot", (0,))),
        )))

    def test_all_that_it_takes_against_a_search(self):
        self.assertEqual(len(TAKEN), 19)
        for things, most in TAKEN:
            lots = tuple(slow_lots(things, most))
            given = best_tree(things, most)
            self.assertEqual(given, (slow_need(lots, things), slow_tree(lots, things)), (things, most))
            self.assertEqual([given.__class__, given[0].__class__, given[1].__class__], [tuple, int, tuple])

    def test_how_many_are_needed(self):
        self.assertEqual([best_tree(things, 1)[0] for things in range(1, 7)], [1, 2, 2, 3, 3, 3])
        self.assertEqual([best_tree(3, most)[0] for most in range(4)], [0, 2, 3, 3])
        self.assertEqual(best_tree(4, 2)[0], 4)

    def test_what_it_tells_is_read(self):
        for things, most in TAKEN:
            need, tree = best_tree(things, most)
            counts = read_tree(things, most, tree)
            self.assertEqual([lot for lot, _ in counts], slow_lots(things, most))
            self.assertEqual(max(count for _, count in counts), need)

    def test_six_things(self):
        self.assertEqual(best_tree(6, 0), (0, ("lot", ())))
        self.assertEqual(best_tree(6, 1)[0], 3)
        for most in (0, 1):
            self.refused("BadCount", best_tree, 7, most)
            self.refused("BadCount", best_tree, 10, most)

    def test_eleven_lots(self):
        self.assertEqual(len(slow_lots(4, 2)), 11)
        self.assertEqual(len(read_tree(4, 2, best_tree(4, 2)[1])), 11)
        for things, most in [(4, 3), (5, 2), (5, 3), (6, 2), (6, 3)]:
            self.refused("BadCount", best_tree, things, most)

    def test_wrong_counts(self):
        for wrong in NO_NUMBERS + [0, -1, 7, 11, 10 ** 30]:
            self.refused("BadCount", best_tree, wrong, 1)
            self.refused("BadCount", best_tree, wrong, 4)
        for wrong in NO_NUMBERS + [-1, 4, 10 ** 30]:
            self.refused("BadCount", best_tree, 1, wrong)
            self.refused("BadCount", best_tree, 6, wrong)


if __name__ == "__main__":
    unittest.main()
