import copy
import itertools
import unittest

from rootrooms.between import maps
from rootrooms.books import joined, ones_of, undone
from rootrooms.errors import NoBook, NoHeap, NoPaper
from rootrooms.looker import look
from rootrooms.meshes import lifted, mesh
from rootrooms.nets import Net, bar, is_few
from rootrooms.parts import alike, book_of, part, parts
from rootrooms.roots import roots
from rootrooms.ties import held, tied, ties
from rootrooms.turning import returned
from tests.few import ANYTHING, SHAPES, FewChecks, drawn_counts, mixed, nets_of
from tests.samples import chance_of, drawn, empty, made, times_by
from tests.shelf import (
    BOOK, NET, alone_book, book_nets, changed, drawn_book, drawn_heap, drawn_tie, mixed_book, no_books, nought_map,
    ones_map, otherwise, some_books, undone_by,
)

RIGHT = ("right",)
OTHER = drawn_book(NET, (1, 2, 1), 3)


def wrong(k):
    return "wrong", k


def led_by(net, first, second):
    return tuple(times_by(then, led, net.prime) for led, then in zip(first, second))


def some_of(things, *seed):
    """Return some of these things and of anything, by chance."""
    chance = chance_of("some", [(one.rooms, one.arrows, one.prime) if isinstance(one, Net) else one for one in seed])
    return chance.sample(things, min(len(things), 8)) + chance.sample(ANYTHING, 3)


def times_of(number, matrices, prime):
    return tuple(made(rows, columns, lambda i, k: number * numbers[i][k] % prime)
                 for rows, columns, numbers in matrices)


def no_map_of(net, one, other, led):
    """Return what is of due sizes, but no map of one to other; or None."""
    for at, (rows, columns, _) in enumerate(led):
        for row, column in itertools.product(range(rows), range(columns)):
            thing = changed(led, at, row, column, net.prime)
            for arrow, (begin, end) in enumerate(net.arrows):
                if times_by(other[1][arrow], thing[begin], net.prime) != times_by(thing[end], one[1][arrow], net.prime):
                    return thing
    return None


class LookerChecks(FewChecks):

    def looked(self, expected, net, *paper):
        """The looker tells this of the paper, twice, and leaves it as it was."""
        # No text of it, for Python does not write out very long numbers.
        kept = copy.deepcopy(paper)
        told = look(net, paper)
        self.assertIs(type(told), tuple)
        self.assertEqual(told, expected)
        self.assertEqual(look(net, paper), expected)
        self.assertEqual(paper, kept)


class AlikeTest(LookerChecks, unittest.TestCase):

    def papers(self):
        """Return nets with two books that are alike, a map there and its contrary."""
        found = []
        for net in book_nets():
            for seed, book in enumerate(some_books(net, 2)):
                other, there = mixed_book(net, book, seed)
                found.append((net, book, other, there, undone(net, book, other, there)))
        return found

    def test_right_and_wrong_at_each_clause(self):
        seen = set()
        for net, one, other, there, back in self.papers():
            self.looked(RIGHT, net, "alike", one, other, there, back)
            self.looked(RIGHT, net, "alike", other, one, back, there)
            for thing in some_of(otherwise(there, net.prime), net, there):
                if thing == there:
                    continue
                self.looked(wrong(0), net, "alike", one, other, thing, back)
                self.looked(wrong(0), net, "alike", one, other, thing, None)
                self.looked(wrong(1), net, "alike", one, other, there, thing) if thing != back else None
            for first, second, k in [(no_map_of(net, one, other, there), back, 0),
                                     (there, no_map_of(net, other, one, back), 1)]:
                if first is not None and second is not None:
                    self.looked(wrong(k), net, "alike", one, other, first, second)
                    seen.add(k)
            if any(one[0]):
                # Twice the contrary, by 2 noughts.
                self.looked(wrong(2), net, "alike", one, other, there, times_of(2, back, net.prime))
                self.looked(wrong(2), net, "alike", one, other, nought_map(one, other), nought_map(other, one))
                seen.add(2)
        self.assertEqual(seen, {0, 1, 2})

    def test_only_the_other_one_s_ones_are_missed(self):
        for net in book_nets():
            one, more = drawn_book(net, drawn_heap(net, 1)), alone_book(net, 0)
            both = joined(net, [one, more])
            there = tuple((a + b, a, tuple(tuple(int(i == k) for k in range(a)) for i in range(a + b)))
                          for a, b in zip(one[0], more[0]))
            back = tuple((a, a + b, tuple(tuple(int(i == k) for k in range(a + b)) for i in range(a)))
                         for a, b in zip(one[0], more[0]))
            self.looked(wrong(3), net, "alike", one, both, there, back)
            self.looked(wrong(2), net, "alike", both, one, back, there)
            self.looked(RIGHT, net, "back", both, one, back, there)
            self.looked(wrong(2), net, "back", one, both, there, back)
            self.looked(RIGHT, net, "through", one, both, one, ones_map(one), there, back)

    def test_made_of_what_is_told(self):
        for net in nets_of(SHAPES):
            book = drawn_book(net, drawn_heap(net, 2))
            counts, there, back = parts(net, book)
            self.looked(RIGHT, net, "alike", book_of(net, counts), book, there, back)
            self.looked(RIGHT, net, *self.paper_of(alike(net, book, mixed(net, book)), book, mixed(net, book)))
            for room in range(net.rooms):
                if all(begin != room for begin, _ in net.arrows):
                    other, there, back = returned(net, drawn_book(net, (1,) * net.rooms), room)
                    self.looked(RIGHT, net, "alike", other, drawn_book(net, (1,) * net.rooms), there, back)

    def paper_of(self, told, one, other):
        word, there, back = told
        return word, one, other, there, back


class BackAndThroughTest(LookerChecks, unittest.TestCase):

    def test_back(self):
        seen = set()
        for net, one, other, there, back in AlikeTest().papers():
            self.looked(RIGHT, net, "back", one, other, there, back)
            for thing in some_of(otherwise(there, net.prime), net, there):
                if thing == there:
                    continue
                self.looked(wrong(0), net, "back", one, other, thing, back)
                self.looked(wrong(0), net, "back", one, other, thing, thing)
                self.looked(wrong(1), net, "back", one, other, there, thing) if thing != back else None
            if any(one[0]):
                self.looked(wrong(2), net, "back", one, other, there, times_of(2, back, net.prime))
                seen.add(2)
            for first, second, k in [(no_map_of(net, one, other, there), back, 0),
                                     (there, no_map_of(net, other, one, back), 1)]:
                if first is not None and second is not None:
                    self.looked(wrong(k), net, "back", one, other, first, second)
                    seen.add(k)
        self.assertEqual(seen, {0, 1, 2})

    def test_through(self):
        seen = set()
        for net in book_nets():
            one, middle, other = [drawn_book(net, drawn_heap(net, 2, seed), seed) for seed in range(3)]
            for way, out in itertools.product(maps(net, one, middle)[:2] + [nought_map(one, middle)],
                                              maps(net, middle, other)[:2] + [nought_map(middle, other)]):
                led = led_by(net, way, out)
                self.looked(RIGHT, net, "through", one, middle, other, led, way, out)
                for thing in some_of(otherwise(led, net.prime), net, led):
                    if thing not in [led, way, out]:
                        self.looked(wrong(0), net, "through", one, middle, other, thing, way, out)
                        self.looked(wrong(0), net, "through", one, middle, other, thing, None, None)
                        self.looked(wrong(1), net, "through", one, middle, other, led, thing, out)
                        self.looked(wrong(1), net, "through", one, middle, other, led, thing, None)
                        self.looked(wrong(2), net, "through", one, middle, other, led, way, thing)
                for more in maps(net, one, other)[:2]:
                    self.looked(RIGHT if more == led else wrong(3), net, "through", one, middle, other, more, way, out)
                    seen.add(more == led)
                for k, (a, b, thing) in enumerate([(one, other, led), (one, middle, way), (middle, other, out)]):
                    thing = no_map_of(net, a, b, thing)
                    if thing is not None:
                        given = [led, way, out]
                        given[k] = thing
                        self.looked(wrong(k), net, "through", one, middle, other, *given)
                        seen.add(k + 10)
        self.assertTrue({False, 10, 11, 12} <= seen)

    def test_made_of_what_is_lifted(self):
        words = set()
        for net in nets_of(SHAPES):
            for root in roots(net)[::4]:
                over = part(net, root)
                between, out = mesh(net, root)[1::2]
                self.looked(RIGHT, net, "through", between, between, over, out, ones_of(net, between), out)
                for book in [over, between, drawn_book(net, drawn_heap(net, 2))]:
                    for led in maps(net, book, over)[:2]:
                        word, found = lifted(net, root, book, led)
                        words.add(word)
                        if word == "through":
                            self.looked(RIGHT, net, "through", book, between, over, led, found, out)
                        else:
                            self.looked(RIGHT, net, "back", book, over, led, found)
        self.assertEqual(words, {"through", "back"})


class UndoneAndHeldTest(LookerChecks, unittest.TestCase):

    def pairs(self):
        return [(net, over, under) for net in book_nets()
                for over, under in itertools.product(some_books(net, 2)[1:4], repeat=2)]

    def test_made_of_what_is_held(self):
        words = set()
        for net, over, under in self.pairs():
            for tie in [drawn_tie(net, over, under, seed) for seed in range(2)] + ties(net, over, under)[:2]:
                word, found = held(net, over, under, tie)
                self.looked(RIGHT, net, word, over, under, tie, found)
                words.add((net.prime, word))
        self.assertEqual(len(words), 6)

    def test_undone(self):
        seen = set()
        for net, over, under in self.pairs():
            sizes = list(zip(under[0], over[0]))
            h = tuple(drawn(*size, net.prime, room) for room, size in enumerate(sizes))
            tie = undone_by(net, over, under, h)
            self.looked(RIGHT, net, "undone", over, under, tie, h)
            for thing in some_of(otherwise(tie, net.prime), net, tie):
                if thing != tie:
                    self.looked(wrong(0), net, "undone", over, under, thing, h)
                    self.looked(wrong(0), net, "undone", over, under, thing, None)
            for thing in some_of(otherwise(h, net.prime), net, h):
                if thing != h:
                    self.looked(wrong(1), net, "undone", over, under, tie, thing)
            for at, (rows, columns, _) in enumerate(tie):
                if rows and columns:
                    self.looked(wrong(2), net, "undone", over, under, changed(tie, at, 0, columns - 1, net.prime), h)
                    seen.add(at)
            for room, (rows, columns) in enumerate(sizes):
                if rows and columns:
                    other = changed(h, room, rows - 1, 0, net.prime)
                    same = undone_by(net, over, under, other) == tie
                    self.looked(RIGHT if same else wrong(2), net, "undone", over, under, tie, other)
                    seen.add(("same", same))
        self.assertTrue({0, 1, 2, ("same", True), ("same", False)} <= seen)

    def test_held(self):
        seen = set()
        for net, over, under in self.pairs():
            for tie in ties(net, over, under)[:2]:
                word, weights = held(net, over, under, tie)
                self.assertEqual(word, "held")
                self.looked(RIGHT, net, "held", over, under, tie, weights)
                for thing in some_of(otherwise(tie, net.prime), net, tie):
                    if thing not in [tie, weights]:
                        self.looked(wrong(0), net, "held", over, under, thing, weights)
                        self.looked(wrong(0), net, "held", over, under, thing, thing)
                        self.looked(wrong(1), net, "held", over, under, tie, thing)
                nothing = tuple(empty(*matrix[:2]) for matrix in tie)
                self.looked(wrong(3), net, "held", over, under, tie, nothing)
                self.looked(wrong(3), net, "held", over, under, nothing, weights)
                self.looked(RIGHT, net, "held", over, under, tie, times_of(net.prime - 1, weights, net.prime))
                for at, (rows, columns, _) in enumerate(weights):
                    if rows and columns:
                        other = changed(weights, at, 0, 0, net.prime)
                        told = look(net, ("held", over, under, tie, other))
                        self.looked(self.expected(net, over, under, tie, other), net, "held", over, under, tie, other)
                        seen.add(told)
        self.assertEqual(seen, {RIGHT, wrong(2), wrong(3)})

    def expected(self, net, over, under, tie, weights):
        """Reckon by all ties that 1 at one place undoes whether the weights tell 0 of each."""
        sizes = list(zip(under[0], over[0]))
        for room, (rows, columns) in enumerate(sizes):
            for row, column in itertools.product(range(rows), range(columns)):
                h = tuple(made(*size, lambda i, k: int((at, i, k) == (room, row, column)))
                          for at, size in enumerate(sizes))
                if self.weighed(weights, undone_by(net, over, under, h)) % net.prime:
                    return wrong(2)
        return RIGHT if self.weighed(weights, tie) % net.prime else wrong(3)

    def weighed(self, weights, tie):
        return sum(x * y for one, other in zip(weights, tie) for line, more in zip(one[2], other[2])
                   for x, y in zip(line, more))

    def test_held_at_a_room_that_arrows_come_to_and_one_that_they_leave(self):
        net = Net(2, ((0, 1),), prime=5)
        begin, end = alone_book(net, 0), alone_book(net, 1)
        both = ((1, 1), ((1, 1, ((2,),)),))
        one = ((1, 1, ((1,),)),)
        self.looked(RIGHT, net, "held", begin, end, one, ((1, 1, ((3,),)),))
        self.looked(wrong(2), net, "held", begin, both, one, ((1, 1, ((3,),)),))
        self.looked(wrong(2), net, "held", both, end, one, ((1, 1, ((3,),)),))
        self.looked(wrong(3), net, "held", begin, end, ((1, 1, ((0,),)),), ((1, 1, ((3,),)),))
        self.looked(RIGHT, net, "undone", begin, both, one, ((1, 1, ((3,),)), (1, 0, ((),))))
        self.looked(RIGHT, net, "undone", both, end, one, ((0, 1, ()), (1, 1, ((2,),))))
        self.looked(wrong(2), net, "undone", both, end, one, ((0, 1, ()), (1, 1, ((3,),))))


class BarTest(LookerChecks, unittest.TestCase):

    def test_bars(self):
        for net in book_nets() + nets_of(SHAPES):
            self.looked(wrong(0), net, "bar", (0,) * net.rooms)
            if is_few(net):
                for root in roots(net):
                    self.looked(wrong(1), net, "bar", root)
            else:
                self.looked(RIGHT, net, "bar", bar(net))
        net = Net(2, ((0, 1), (0, 1)))
        cases = [((1, 1), RIGHT), ((2, 2), RIGHT), ((1, 2), wrong(1)), ((0, 1), wrong(1)), ((0, 0), wrong(0))]
        for heap, told in cases:
            self.looked(told, net, "bar", heap)
        net = Net(2, ((0, 1), (1, 0), (0, 1)))
        self.looked(RIGHT, net, "bar", (1, 2))
        self.looked(wrong(1), net, "bar", (1, 3))


class RefusalsTest(LookerChecks, unittest.TestCase):

    def papers(self, one, other):
        led, back = nought_map(one, other), nought_map(other, one)
        tie = drawn_tie(NET, one, other)
        return [
            ("alike", one, other, led, back), ("back", one, other, led, back),
            ("through", one, other, one, ones_map(one), led, back), ("undone", one, other, tie, led),
            ("held", one, other, tie, tie), ("bar", (1, 1, 1)),
        ]

    def test_no_paper(self):
        papers = self.papers(BOOK, OTHER)
        for paper in papers:
            self.assertIn(look(NET, paper)[0], ["right", "wrong"])
            parts_of_it = list(paper)
            for thing in [parts_of_it, paper[:-1], paper + (None,), paper[:1], paper[1:], (paper,), paper[::-1],
                          (paper[0] + " ",) + paper[1:], ("Alike",) + paper[1:], (None,) + paper[1:],
                          ([paper[0]],) + paper[1:], ((paper[0],),) + paper[1:], (0,) + paper[1:],
                          (True,) + paper[1:], paper + ((),)]:
                self.refused(NoPaper, look, NET, thing)
            # Other than so many parts, whatever they are.
            for many in range(9):
                if many + 1 != len(paper):
                    self.refused(NoPaper, look, NET, (paper[0],) + (None,) * many)
        for word, other in itertools.permutations(papers, 2):
            if len(word) != len(other):
                self.refused(NoPaper, look, NET, word[:1] + other[1:])
        for thing in ANYTHING + [("right",), ("wrong", 0), ("",), ("solved", 1), "alike", ["bar", (1, 1, 1)]]:
            self.refused(NoPaper, look, NET, thing)

    def test_no_book(self):
        for paper in self.papers(BOOK, OTHER):
            books = {"through": 3, "bar": 0}.get(paper[0], 2)
            for at in range(1, books + 1):
                for thing in no_books(NET, BOOK)[::5] + ANYTHING:
                    given = list(paper)
                    given[at] = thing
                    self.refused(NoBook, look, NET, tuple(given))
                    # Ahead of all clauses.
                    self.refused(NoBook, look, NET, tuple(given[:books + 1] + [None] * (len(given) - books - 1)))
        for k in range(1, 4):
            paper = ["through", BOOK, BOOK, BOOK, 1, 2, 3]
            paper[k] = ((1, 1, 1), ())
            self.refused(NoBook, look, NET, tuple(paper))

    def test_no_heap(self):
        for thing in ANYTHING + [(1, 1), (1, 1, 1, 1), (13, 0, 0), (-1, 1, 1), (True, 1, 1), [1, 1, 1], (12, 12, 7)]:
            self.refused(NoHeap, look, NET, ("bar", thing))
        self.refused(NoPaper, look, NET, ("bar", None, None))
        self.refused(NoPaper, look, NET, ("bar",))

    def test_what_is_in_a_paper_is_anything(self):
        for paper in self.papers(BOOK, OTHER)[:5]:
            books = {"through": 3}.get(paper[0], 2)
            for at in range(books + 1, len(paper)):
                for thing in ANYTHING:
                    given = list(paper)
                    given[at] = thing
                    told = look(NET, tuple(given))
                    self.assertEqual(told, wrong(at - books - 1))
                    given[at + 1:] = [thing] * (len(paper) - at - 1)
                    self.assertEqual(look(NET, tuple(given)), told)

    def test_the_paper_stays_as_it_was(self):
        paper = ("alike", BOOK, OTHER, [[1, 2], []], [(), [3]])
        self.looked(wrong(0), NET, *paper)
        self.assertEqual(paper[3:], ([[1, 2], []], [(), [3]]))


class MeshPapersTest(LookerChecks, unittest.TestCase):

    def test_what_is_tied_has_no_way_back_where_it_is_held(self):
        for net in nets_of(SHAPES[:6]):
            for seed in range(3):
                over, under = [book_of(net, drawn_counts(net, 2, 1, at)) for at in [seed, seed + 7]]
                tie = drawn_tie(net, over, under, seed)
                word, found = held(net, over, under, tie)
                book, _, way_out = tied(net, over, under, tie)
                if word == "undone":
                    way = tuple((a + b, b, tuple(tuple(-x % net.prime for x in line) for line in matrix[2])
                                 + tuple(tuple(int(i == k) for k in range(b)) for i in range(b)))
                                for matrix, a, b in zip(found, under[0], over[0]))
                    self.looked(RIGHT, net, "back", book, over, way_out, way)
                else:
                    for way in maps(net, over, book)[:3]:
                        self.looked(wrong(2), net, "back", book, over, way_out, way)

    def test_drawn_maps(self):
        chance = chance_of("looker")
        for net in book_nets():
            one, other = drawn_book(net, drawn_heap(net, 2, 1), 1), drawn_book(net, drawn_heap(net, 2, 2), 2)
            for led in maps(net, one, other)[:3]:
                number = chance.randrange(1, net.prime)
                self.looked(RIGHT, net, "through", one, one, other, times_of(number, led, net.prime),
                            times_of(number, ones_map(one), net.prime), led)


if __name__ == "__main__":
    unittest.main()
