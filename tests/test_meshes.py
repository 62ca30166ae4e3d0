import itertools
import unittest

from rootrooms.between import maps
from rootrooms.books import joined, nought_book
from rootrooms.cuts import arrows_hit
from rootrooms.errors import NoBook, NoMap, NoRoot, TooGreat
from rootrooms.meshes import lifted, mesh, steps
from rootrooms.nets import Net, is_heap
from rootrooms.parts import book_of, part, parts
from rootrooms.roots import before, roots
from tests.few import (
    ANYTHING, GREAT_SHAPES, SHAPES, SMALL_SHAPES, FewChecks, drawn_counts, fit_heap, many_maps_told, mixed, nets_of,
)
from tests.samples import empty, hand, lined_up, rank_of, shuffled, times_by
from tests.shelf import (
    all_maps, alone_book, drawn_book, drawn_heap, in_a_row, no_books, nought_map, ones_map, otherwise, rank_of_all,
    summed,
)

NET = Net(3, ((0, 1), (2, 1)), prime=5)


def behind(net, first, second):
    """Return the map that is first followed by second."""
    return tuple(times_by(then, led, net.prime) for led, then in zip(first, second))


def plus(one, other):
    return tuple(a + b for a, b in zip(one, other))


def is_great(net, root):
    """Tell whether the mesh of this root is too great."""
    first = before(net, root)
    return first is not None and not is_heap(net, plus(first, root))


def meshes_of(shapes, step=1):
    """Return nets with roots whose meshes aren't too great."""
    return [(net, root) for net in nets_of(shapes) for root in roots(net)[::step] if not is_great(net, root)]


def has_way_back(net, one, other, led):
    """Tell whether there is a map of other to one that followed by led is other's ones, by ranks."""
    back = [behind(net, way, led) for way in maps(net, other, one)]
    return rank_of_all(back, net.prime) == rank_of_all(back + [ones_map(other)], net.prime)


class MeshTest(FewChecks, unittest.TestCase):

    def is_mesh(self, net, root):
        told = mesh(net, root)
        self.assertIs(type(told), tuple)
        first, book, way_in, way_out = told
        self.assertEqual(first, before(net, root))
        over = part(net, root)
        self.is_made_book(net, book)
        self.is_made_map(net, book, over, way_out)
        # No map of the part to the book has the way out as a way back.
        self.assertIs(has_way_back(net, book, over, way_out), False)
        if first is None:
            self.assertIsNone(way_in)
            hit, way = arrows_hit(net, over)
            self.assertEqual(book[0], hit[0])
            for matrix, other, many in zip(way_out, way, book[0]):
                self.assertEqual(rank_of(matrix, net.prime), many)
                self.assertEqual(rank_of(lined_up(matrix, other), net.prime), many)
            return told
        under = part(net, first)
        self.assertEqual(book[0], plus(first, root))
        self.is_made_map(net, under, book, way_in)
        for room in range(net.rooms):
            self.assertEqual(rank_of(way_in[room], net.prime), first[room])
            self.assertEqual(rank_of(way_out[room], net.prime), root[room])
            self.assertEqual(times_by(way_out[room], way_in[room], net.prime), empty(root[room], first[room]))
        return told

    def test_every_root_of_several_nets(self):
        none_before = 0
        for net, root in meshes_of(SHAPES):
            none_before += self.is_mesh(net, root)[0] is None
        self.assertEqual(none_before, sum(net.rooms for net in nets_of(SHAPES)))

    def test_roots_of_great_nets(self):
        for net, root in meshes_of(GREAT_SHAPES, 9):
            self.is_mesh(net, root)

    def test_by_hand(self):
        net = Net(2, ((0, 1),), prime=3)
        # Room 1 alone: nothing is hit by its arrows.
        self.assertEqual(mesh(net, (0, 1)), (None, nought_book(net), None, ((0, 0, ()), (1, 0, ((),)))))
        first, book, way_in, way_out = mesh(net, (1, 0))
        self.assertEqual((first, book[0], way_in[0], way_out[1]), ((0, 1), (1, 1), (1, 0, ((),)), (0, 1, ())))
        self.assertNotEqual(book[1], ((1, 1, ((0,),)),))
        first, book, way_in, way_out = mesh(net, (1, 1))
        self.assertEqual((first, book, way_in), (None, alone_book(net, 1), None))
        self.assertEqual(way_out[0], (1, 0, ((),)))
        self.assertIn(way_out[1], [(1, 1, ((1,),)), (1, 1, ((2,),))])
        self.assertEqual(mesh(Net(1, ()), (1,)), (None, ((0,), ()), None, ((1, 0, ((),)),)))

    def test_the_same_for_equal_nets(self):
        for net, root in meshes_of(SHAPES, 3):
            same = Net(net.rooms, tuple((begin, end) for begin, end in net.arrows), prime=net.prime)
            told = mesh(net, root)
            self.assertEqual(mesh(net, root), told)
            self.assertEqual(mesh(same, tuple(list(root))), told)
            self.assertEqual(steps(same, root), steps(net, root))

    def test_too_great(self):
        great = 0
        for prime in [2, 97]:
            net = shuffled(8, hand(8), prime)
            for root in roots(net):
                if is_great(net, root):
                    great += 1
                    self.refused(TooGreat, mesh, net, root)
                    self.refused(TooGreat, steps, net, root)
                    nothing = nought_book(net)
                    self.refused(TooGreat, lifted, net, root, nothing, nought_map(nothing, (root, ())))
                    self.refused(NoMap, lifted, net, root, nothing, ())
                    self.refused(NoBook, lifted, net, root, None, ())
        self.assertGreater(great, 10)

    def test_refusals(self):
        book = drawn_book(NET, (1, 2, 1))
        led = nought_map(book, ((1, 1, 1), ()))
        for thing in ANYTHING + [(0, 0, 0), (1, 2, 1), (0, 0, 2), (1, 0, 1), [1, 1, 1], (1, 1), (True, 1, 1)]:
            self.refused(NoRoot, mesh, NET, thing)
            self.refused(NoRoot, steps, NET, thing)
            self.refused(NoRoot, lifted, NET, thing, book, led)
            self.refused(NoRoot, lifted, NET, thing, None, None)
            self.not_few(mesh, thing)
            self.not_few(steps, thing)
            self.not_few(lifted, thing, thing, thing)
        for thing in no_books(NET, book):
            self.refused(NoBook, lifted, NET, (1, 1, 1), thing, led)
            self.refused(NoBook, lifted, NET, (1, 1, 1), thing, None)
        for thing in otherwise(led, 5) + ANYTHING:
            self.refused(NoMap, lifted, NET, (1, 1, 1), book, thing)
        for root in [(1, 0), (1, 1), (0, 1)]:
            self.not_few(mesh, root)
            self.not_few(steps, root)


class LiftedTest(FewChecks, unittest.TestCase):

    def is_lifted(self, net, root, book, led):
        """What is told of this map is so: it goes through the mesh, or has a way back, never both."""
        kept = repr((root, book, led))
        told = lifted(net, root, book, led)
        self.assertIs(type(told), tuple)
        word, found = told
        over = part(net, root)
        between, out = mesh(net, root)[1::2]
        if word == "through":
            self.is_made_map(net, book, between, found)
            self.assertEqual(behind(net, found, out), led)
        else:
            self.assertEqual(word, "back")
            self.is_made_map(net, over, book, found)
            self.assertEqual(behind(net, found, led), ones_map(over))
        self.assertIs(has_way_back(net, book, over, led), word == "back")
        self.assertEqual(lifted(net, root, book, led), told)
        self.assertEqual(repr((root, book, led)), kept)
        return word

    def some_maps(self, net, one, other):
        told = maps(net, one, other)
        sizes = list(zip(other[0], one[0]))
        return told[:2] + [summed(told, sizes, net.prime, seed) for seed in range(2)]

    def test_noughts_go_through_and_ones_come_back(self):
        for net, root in meshes_of(SHAPES, 2):
            over = part(net, root)
            nothing = nought_book(net)
            self.assertEqual(self.is_lifted(net, root, over, ones_map(over)), "back")
            self.assertEqual(self.is_lifted(net, root, over, nought_map(over, over)), "through")
            self.assertEqual(self.is_lifted(net, root, nothing, nought_map(nothing, over)), "through")
            book = drawn_book(net, drawn_heap(net, 2))
            self.assertEqual(self.is_lifted(net, root, book, nought_map(book, over)), "through")

    def test_the_way_out_goes_through(self):
        for net, root in meshes_of(SHAPES):
            between, out = mesh(net, root)[1::2]
            self.assertEqual(self.is_lifted(net, root, between, out), "through")

    def test_from_every_part(self):
        for net, root in meshes_of(SMALL_SHAPES):
            over = part(net, root)
            for other in roots(net):
                one = part(net, other)
                for led in maps(net, one, over):
                    self.assertEqual(self.is_lifted(net, root, one, led), "back" if other == root else "through")

    def test_from_joined_and_mixed_books(self):
        words = []
        for net, root in meshes_of(SHAPES, 3):
            over = part(net, root)
            for seed in range(2):
                book = fit_joined(net, [over, book_of(net, drawn_counts(net, 2, 2, seed))])
                for one in [book, mixed(net, book, seed)]:
                    for led in self.some_maps(net, one, over):
                        words.append(self.is_lifted(net, root, one, led))
        self.assertGreater(words.count("through"), 50)
        self.assertGreater(words.count("back"), 50)

    def test_from_drawn_books(self):
        for net, root in meshes_of(SHAPES, 3):
            for seed in range(2):
                book = drawn_book(net, fit_heap(net, drawn_heap(net, 3, seed)), seed)
                for led in self.some_maps(net, book, part(net, root)):
                    self.is_lifted(net, root, book, led)

    def test_over_great_nets(self):
        for net, root in meshes_of(GREAT_SHAPES, 25):
            over = part(net, root)
            self.assertEqual(self.is_lifted(net, root, over, ones_map(over)), "back")
            book = drawn_book(net, fit_heap(net, drawn_heap(net, 3)))
            for led in self.some_maps(net, book, over)[-1:]:
                self.is_lifted(net, root, book, led)

    def test_all_small_maps(self):
        for net in [Net(2, ((0, 1),), prime=3), Net(3, ((0, 1), (1, 2))), Net(3, ((1, 0), (1, 2)))]:
            for root, seed in itertools.product(roots(net), range(2)):
                book = drawn_book(net, (1, 2, 1)[:net.rooms], seed)
                for led in all_maps(net, book, part(net, root)):
                    self.is_lifted(net, root, book, led)


class StepsTest(FewChecks, unittest.TestCase):

    def test_the_roots_of_the_parts_between(self):
        for net, root in meshes_of(SHAPES) + meshes_of(GREAT_SHAPES, 9):
            told = steps(net, root)
            self.assertIs(type(told), list)
            counts = parts(net, mesh(net, root)[1])[0]
            self.assertEqual(told, sorted({step for step, _ in counts}))
            told.append(root)
            told.reverse()
            self.assertEqual(steps(net, root), [step for step, _ in counts])

    def test_by_hand(self):
        net = Net(3, ((0, 1), (2, 1)))
        self.assertEqual({root: steps(net, root) for root in roots(net)}, {
            (0, 1, 0): [], (1, 1, 0): [(0, 1, 0)], (0, 1, 1): [(0, 1, 0)], (1, 1, 1): [(0, 1, 1), (1, 1, 0)],
            (1, 0, 0): [(1, 1, 1)], (0, 0, 1): [(1, 1, 1)],
        })
        self.assertEqual(steps(Net(1, ()), (1,)), [])


class CountedOverMeshesTest(FewChecks, unittest.TestCase):

    def test_how_often_a_part_stands_is_told_by_maps_over_its_mesh(self):
        # Maps into the part, less those into the book between, and those into the part before it.
        for net in nets_of(SMALL_SHAPES):
            book = drawn_book(net, drawn_heap(net, 3, 2), 2)
            counts = dict(parts(net, book)[0])
            for root in roots(net):
                first, between, _, _ = mesh(net, root)
                many = many_maps_told(net, book, part(net, root)) - many_maps_told(net, book, between)
                if first is not None:
                    many += many_maps_told(net, book, part(net, first))
                self.assertEqual(many, counts.get(root, 0))

    def test_maps_that_do_not_go_through_are_one_times_its_ones(self):
        for net, root in meshes_of(SMALL_SHAPES):
            between, out = mesh(net, root)[1::2]
            over = part(net, root)
            through = [behind(net, way, out) for way in maps(net, over, between)]
            self.assertEqual(rank_of_all([thing for thing in through if any(in_a_row(thing))], net.prime), 0)


def fit_joined(net, books):
    """Return the joined book of these, or of the first if they are too great."""
    try:
        return joined(net, books)
    except TooGreat:
        return books[0]


if __name__ == "__main__":
    unittest.main()
