import unittest

from rootrooms.errors import NoCounts
from rootrooms.lowering import lowered
from rootrooms.nets import Net
from rootrooms.parted import below, heap_of, many_ties, parted, plain
from rootrooms.parts import is_counts, part, parts
from rootrooms.ties import held, is_tie, tied
from tests.few import (
    GREAT_SHAPES, SHAPES, SMALL_SHAPES, FewChecks, added, drawn_counts, fit_heap, nets_of, units,
)
from tests.shelf import drawn_heap, rank_of_all, all_undone
from tests.test_parted import GOOD, NET, NO_COUNTS


def less(counts, root):
    """Return the counts with one less of a root."""
    found = dict(counts)
    found[root] -= 1
    return tuple((one, many) for one, many in sorted(found.items()) if many)


class LoweredTest(FewChecks, unittest.TestCase):

    def is_lowered(self, net, counts):
        """Step by step what is told is so; return how many steps there are."""
        kept = repr(counts)
        told = lowered(net, counts)
        self.assertIs(type(told), list)
        now = counts
        for step in told:
            self.assertIs(type(step), tuple)
            over, under, tie = step
            rest = now
            for root in [over, under]:
                self.assertIn(root, dict(rest))
                rest = less(rest, root)
            first, second = part(net, over), part(net, under)
            self.assertIs(is_tie(net, first, second, tie), True)
            undone = all_undone(net, first, second)
            self.assertGreater(rank_of_all(undone + [tie], net.prime), rank_of_all(undone, net.prime))
            self.assertEqual(held(net, first, second, tie)[0], "held")
            lower = added(rest, parts(net, tied(net, first, second, tie)[0])[0])
            self.assertIs(is_counts(net, lower), True)
            self.assertEqual(below(net, lower, now), ("below",))
            self.assertEqual(below(net, now, lower)[0], "not")
            now = lower
        self.assertEqual(now, plain(net, heap_of(net, counts)))
        self.assertEqual(lowered(net, counts), told)
        self.assertEqual(repr(counts), kept)
        return len(told)

    def test_all_counts_of_small_heaps(self):
        steps = 0
        for net in nets_of(SMALL_SHAPES):
            for seed in range(2):
                for counts in parted(net, drawn_heap(net, 2, seed))[:12]:
                    steps += self.is_lowered(net, counts)
        self.assertGreater(steps, 50)

    def test_of_several_parts(self):
        steps = 0
        for net in nets_of(SHAPES):
            for seed in range(2):
                steps += self.is_lowered(net, drawn_counts(net, 4, 3, seed))
        self.assertGreater(steps, 40)

    def test_of_rooms_alone(self):
        for net in nets_of(SHAPES):
            heap = drawn_heap(net, 2, 3)
            self.is_lowered(net, tuple(sorted((root, many) for root, many in zip(units(net), heap) if many)))

    def test_of_great_nets(self):
        for net in nets_of(GREAT_SHAPES)[::2]:
            self.is_lowered(net, drawn_counts(net, 4, 2))

    def test_of_great_heaps(self):
        for net in [Net(2, ((1, 0),), prime=97), Net(2, ((0, 1),), prime=2)]:
            self.assertEqual(self.is_lowered(net, (((0, 1), 12), ((1, 0), 12))), 12)

    def test_plain_ones_give_the_empty_list(self):
        for net in nets_of(SHAPES + GREAT_SHAPES):
            for seed in range(3):
                counts = plain(net, fit_heap(net, drawn_heap(net, 3, seed)))
                self.assertEqual(many_ties(net, counts, counts), 0)
                self.assertEqual(lowered(net, counts), [])
            self.assertEqual(lowered(net, ()), [])

    def test_by_hand(self):
        net = Net(2, ((0, 1),), prime=3)
        ((over, under, tie),) = lowered(net, (((0, 1), 1), ((1, 0), 1)))
        self.assertEqual((over, under), ((1, 0), (0, 1)))
        self.assertIn(tie, [((1, 1, ((1,),)),), ((1, 1, ((2,),)),)])

    def test_told_again_behind_a_changed_list(self):
        counts = (((0, 0, 1), 1), ((0, 1, 0), 2), ((1, 0, 0), 1))
        told = lowered(NET, counts)
        kept = list(told)
        told.clear()
        self.assertEqual(lowered(NET, counts), kept)

    def test_refusals(self):
        for thing in NO_COUNTS:
            self.refused(NoCounts, lowered, NET, thing)
        for thing in NO_COUNTS + [(), GOOD, (((1, 0), 1),)]:
            self.not_few(lowered, thing)


if __name__ == "__main__":
    unittest.main()
