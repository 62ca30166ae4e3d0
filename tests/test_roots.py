import itertools
import unittest

from rootrooms.errors import NoRoot, NotFew
from rootrooms.nets import Net, form, is_heap
from rootrooms.roots import before, behind, ladder, roots
from tests.samples import FEW_PIECES, MORE_PIECES, chance_of, fork, hand, row, shuffled, side_by_side
from tests.things import NO_WHOLES, VERY_LONG, Refusals

MANY = {"row": lambda n: n * (n + 1) // 2, "fork": lambda n: n * (n - 1), "hand": {6: 36, 7: 63, 8: 120}.get}

# Some few nets of several pieces.
BESIDE = [
    side_by_side(*pieces) for pieces in [
        [(1, []), (1, [])],
        [(2, row(2)), (1, []), (3, row(3))],
        [(4, fork(4)), (4, fork(4))],
        [(6, hand(6)), (2, row(2))],
        [(7, hand(7)), (1, [])],
        [(5, fork(5)), (3, row(3))],
        [(4, row(4)), (4, fork(4))],
        [(2, row(2))] * 4,
        [(1, [])] * 8,
    ]
]


def few_nets(seeds=3):
    """Return nets of each kind and of several pieces, with their arrows this way and that."""
    some = [(many, arrows) for _, many, arrows in FEW_PIECES] + BESIDE
    return [shuffled(many, arrows, prime, seed) for many, arrows in some
            for seed, prime in list(enumerate([2, 97, 3]))[:seeds]]


def units(net):
    return [tuple(int(k == room) for k in range(net.rooms)) for room in range(net.rooms)]


class RootsTest(Refusals, unittest.TestCase):

    def test_by_hand(self):
        self.assertEqual(roots(Net(1, ())), [(1,)])
        self.assertEqual(roots(Net(2, ())), [(0, 1), (1, 0)])
        self.assertEqual(roots(Net(2, ((1, 0),), prime=3)), [(0, 1), (1, 0), (1, 1)])
        self.assertEqual(roots(Net(3, ((0, 1), (2, 1)))),
                         [(0, 0, 1), (0, 1, 0), (0, 1, 1), (1, 0, 0), (1, 1, 0), (1, 1, 1)])
        self.assertEqual(roots(Net(4, ((0, 1), (2, 1), (1, 3)))), [
            (0, 0, 0, 1), (0, 0, 1, 0), (0, 1, 0, 0), (0, 1, 0, 1), (0, 1, 1, 0), (0, 1, 1, 1),
            (1, 0, 0, 0), (1, 1, 0, 0), (1, 1, 0, 1), (1, 1, 1, 0), (1, 1, 1, 1), (1, 2, 1, 1),
        ])
        self.assertIn((2, 4, 6, 5, 4, 3, 2, 3), roots(Net(8, tuple(hand(8)))))

    def test_how_many(self):
        for (word, n), many, arrows in FEW_PIECES:
            expected = MANY[word](n)
            for seed in range(5):
                told = roots(shuffled(many, arrows, 2, seed))
                self.assertEqual(len(told), expected)

    def test_rising_each_once_of_form_one(self):
        for net in few_nets():
            told = roots(net)
            self.assertEqual(told, sorted(set(told)))
            for root in told:
                self.assertIs(is_heap(net, root), True)
                self.assertEqual(form(net, root, root), 1)
            self.assertTrue(set(units(net)) <= set(told))

    def test_all_heaps_of_form_one(self):
        for many, arrows in [(1, []), (3, row(3)), (4, row(4)), (4, fork(4)), (5, fork(5)), (5, []),
                             side_by_side((2, row(2)), (2, row(2)))]:
            net = shuffled(many, arrows)
            heaps = itertools.product(range(4), repeat=many)
            self.assertEqual(roots(net), [heap for heap in heaps if form(net, heap, heap) == 1])

    def test_pieces_beside_one_another(self):
        net = Net(7, ((0, 1), (4, 3), (3, 5), (3, 6)))
        told = roots(net)
        expected = [root + (0,) * 5 for root in roots(Net(2, ((0, 1),)))]
        expected += [(0, 0, 1, 0, 0, 0, 0)]
        expected += [(0,) * 3 + root for root in roots(Net(4, ((1, 0), (0, 2), (0, 3))))]
        self.assertEqual(told, sorted(expected))

    def test_the_ways_of_the_arrows_do_not_count(self):
        for _, many, arrows in FEW_PIECES:
            expected = roots(Net(many, tuple(arrows)))
            for seed in range(5):
                chance = chance_of(seed, many)
                ways = tuple(chance.choice([arrow, arrow[::-1]]) for arrow in chance.sample(arrows, len(arrows)))
                self.assertEqual(roots(Net(many, ways, prime=97)), expected)

    def test_told_again_behind_a_changed_list(self):
        for net in few_nets(1):
            for function in [roots, ladder]:
                told = function(net)
                kept = list(told)
                told.reverse()
                told.append((0,) * net.rooms)
                del told[0]
                self.assertEqual(function(net), kept)
                self.assertIsNot(function(net), function(net))


class LadderTest(unittest.TestCase):

    def test_no_form_of_a_later_one_with_an_earlier_one_is_above_nought(self):
        for net in few_nets():
            told = ladder(net)
            self.assertIs(type(told), list)
            self.assertEqual(sorted(told), roots(net))
            for at, later in enumerate(told):
                for earlier in told[:at]:
                    self.assertLessEqual(form(net, later, earlier), 0)

    def test_by_hand(self):
        self.assertEqual(ladder(Net(1, ())), [(1,)])
        self.assertEqual(ladder(Net(2, ((0, 1),))), [(0, 1), (1, 1), (1, 0)])
        self.assertEqual(ladder(Net(2, ((1, 0),))), [(1, 0), (1, 1), (0, 1)])


class BeforeAndBehindTest(Refusals, unittest.TestCase):

    def test_by_hand(self):
        net = Net(2, ((0, 1),))
        self.assertEqual([before(net, root) for root in [(0, 1), (1, 1), (1, 0)]], [None, None, (0, 1)])
        self.assertEqual([behind(net, root) for root in [(0, 1), (1, 1), (1, 0)]], [(1, 0), None, None])
        self.assertIsNone(before(Net(1, ()), (1,)))
        self.assertIsNone(behind(Net(1, ()), (1,)))

    def test_the_forms(self):
        for net in few_nets():
            all_roots = roots(net)
            # The form is a sum over rooms, so that heaps of 1 at one room tell of all; some others stand beside them.
            heaps = units(net) + chance_of(net.arrows).sample(all_roots, min(5, len(all_roots)))
            none_before = none_behind = 0
            for root in all_roots:
                wanted = [form(net, root, heap) for heap in units(net)]
                fits = [z for z in all_roots if [-form(net, heap, z) for heap in units(net)] == wanted]
                told = before(net, root)
                self.assertEqual([told], fits or [None])
                if told is None:
                    none_before += 1
                else:
                    for heap in heaps:
                        self.assertEqual(form(net, heap, told), -form(net, root, heap))
                    self.assertEqual(behind(net, told), root)
                later = behind(net, root)
                if later is None:
                    none_behind += 1
                else:
                    self.assertEqual(before(net, later), root)
            self.assertEqual((none_before, none_behind), (net.rooms, net.rooms))

    def test_what_is_no_root(self):
        nets = [Net(3, ((0, 1), (2, 1))), Net(3, ())]
        things = NO_WHOLES + [0, 1, VERY_LONG, "abc", [0, 0, 1], [1, 1, 1]] + [
            (0, 0, 0), (0, 0, 2), (1, 1, 2), (2, 2, 2), (1, 2, 1), (1, 0, 1), (2, 1, 0), (0, 0, 12), (0, 0, 13),
            (0, 0, -1), (-1, 0, 0), (0, 0), (0, 1), (1,), (0, 0, 1, 0), (0, 0, True), (False, 0, 1), (0, 0, "1"),
            (0, 0, None), (0, 0, (1,)), ((0, 0, 1),), (0, 0, VERY_LONG), (12, 12, 12),
        ]
        for net in nets:
            for thing in things:
                for function in [before, behind]:
                    self.refused(NoRoot, function, net, thing)
        self.refused(NoRoot, before, nets[1], (1, 1, 0))
        self.assertIsNone(behind(nets[1], (1, 0, 0)))

    def test_what_is_handed_in_is_as_it_was(self):
        net = Net(3, ((0, 1), (2, 1)))
        thing = [0, 0, 1]
        self.refused(NoRoot, before, net, thing)
        self.refused(NoRoot, behind, net, (0, thing, 1))
        self.assertEqual((thing, net), ([0, 0, 1], Net(3, ((0, 1), (2, 1)))))


class NotFewTest(Refusals, unittest.TestCase):

    def not_few(self, net, function, *given):
        self.refused(NotFew, function, net, *given)
        try:
            function(net, *given)
        except NotFew as error:
            self.assertIs(is_heap(net, error.heap), True)
            self.assertTrue(any(error.heap))
            self.assertLessEqual(form(net, error.heap, error.heap), 0)

    def test_a_bar_is_told_ahead_of_all_else(self):
        for many, arrows in MORE_PIECES:
            net = shuffled(many, arrows)
            single = (1,) + (0,) * (many - 1)
            self.not_few(net, roots)
            self.not_few(net, ladder)
            for thing in [single, (0,) * many, None, [], "ab", -1, (True,) * many]:
                self.not_few(net, before, thing)
                self.not_few(net, behind, thing)

    def test_beside_few_pieces(self):
        net = Net(8, ((0, 1), (5, 6), (7, 6), (6, 5)))
        self.not_few(net, roots)
        self.not_few(net, ladder)
        self.not_few(net, before, (1, 0, 0, 0, 0, 0, 0, 0))
        self.not_few(net, behind, (1, 0, 0, 0, 0, 0, 0, 0))


if __name__ == "__main__":
    unittest.main()
