import itertools
import unittest

from rootrooms.between import maps
from rootrooms.books import joined, nought_book
from rootrooms.cuts import killed, left
from rootrooms.errors import (
    Full, NoBook, NoEnd, NoFit, NoMap, NoMark, NoMatrix, NoName, NoTie, RoomError, Standing, TooGreat,
)
from rootrooms.house import House
from rootrooms.nets import Net
from rootrooms.parts import alike, parts
from rootrooms.ties import tied, ties
from rootrooms.turning import turned
from tests.few import ANYTHING, GREAT_SHAPES, SHAPES, FewChecks, fit_heap, mixed, nets_of
from tests.samples import chance_of, hand, shuffled
from tests.shelf import (
    alone_book, changed, drawn_book, drawn_heap, drawn_tie, no_books, nought_map, ones_map, otherwise,
)
from tests.things import NO_WHOLES, VERY_LONG

NET = Net(3, ((0, 1), (2, 1)), prime=5)
ONE = drawn_book(NET, (1, 2, 1), 4)
OTHER = drawn_book(NET, (2, 2, 0), 5)
NO_NAMES = [
    "", "abcdefghi", "aaaaaaaaa", "A", "aB", "a1", "1", "a b", " a", "a ", "a_b", "a-b", "a\n", "\n", "ab\t", "z{", "`",
    "\u00e9", "a\u00df", "\u0430", "x" * 5000,
] + [thing for thing in ANYTHING if not isinstance(thing, str) or not thing.isalpha() or len(thing) > 8]
MISSING = ["c", "onee", "on", "names", "zzzzzzzz"]


def state(house):
    """Return all that a house tells of what stands in it."""
    net = house.net()
    books = [(name, house.book(name)) for name in house.names()]
    return (net.rooms, net.arrows, net.prime), books, house.marks()


def house_of(net, **books):
    house = House(net)
    for name, book in books.items():
        house.put(name, book)
    return house


class HouseChecks(FewChecks):

    def refused_of(self, error, house, deed, *given, field=None, value=None, **named):
        """The deed is refused by this error, with this field, and all stands as before."""
        before = state(house)
        with self.assertRaises(RoomError) as caught:
            deed(*given, **named)
        self.assertIs(type(caught.exception), error)
        if field is not None:
            told = getattr(caught.exception, field)
            self.assertIs(type(told), type(value))
            self.assertEqual(told, value)
        self.assertEqual(state(house), before)

    def no_name(self, house, deed, name, *given, **named):
        self.refused_of(NoName, house, deed, *given, field="name", value=name, **named)


class DeedsTest(HouseChecks, unittest.TestCase):

    def test_an_empty_house(self):
        for net in nets_of(SHAPES):
            house = House(net)
            self.assertEqual((house.net(), house.names(), house.marks()), (net, [], []))
            self.assertEqual(house.turn(self.an_end(net)), [])

    def an_end(self, net):
        return [room for room in range(net.rooms) if all(begin != room for begin, _ in net.arrows)][0]

    def test_put_swap_and_take_out(self):
        house = House(NET)
        self.assertIsNone(house.put("one", ONE))
        self.assertIsNone(house.put("b", OTHER))
        self.assertEqual(house.names(), ["b", "one"])
        self.assertEqual((house.book("one"), house.book("b")), (ONE, OTHER))
        self.assertIsNone(house.swap("one", OTHER))
        self.assertEqual((house.book("one"), house.book("b")), (OTHER, OTHER))
        self.assertIsNone(house.take_out("one"))
        self.assertEqual(house.names(), ["b"])
        self.no_name(house, house.book, "one", "one")
        house.put("one", nought_book(NET))
        self.assertEqual(house.book("one"), nought_book(NET))

    def test_join_tie_kill_and_leave(self):
        for net in nets_of(SHAPES):
            one, other = drawn_book(net, drawn_heap(net, 1, 1), 1), drawn_book(net, drawn_heap(net, 1, 2), 2)
            house = house_of(net, one=one, b=other)
            self.assertIsNone(house.join("both", "one", "b"))
            self.assertEqual(house.book("both"), joined(net, [one, other]))
            house.join("self", "one", "one")
            self.assertEqual(house.book("self"), joined(net, [one, one]))
            tie = drawn_tie(net, one, other)
            self.assertIsNone(house.tie("tied", "one", "b", tie))
            self.assertEqual(house.book("tied"), tied(net, one, other, tie)[0])
            both = house.book("both")
            for at, led in enumerate(maps(net, one, both)[:2]):
                self.assertIsNone(house.kill("kill" + "ab"[at], "one", "both", led))
                self.assertEqual(house.book("kill" + "ab"[at]), killed(net, one, both, led)[0])
                self.assertIsNone(house.leave("leave" + "ab"[at], "one", "both", led))
                self.assertEqual(house.book("leave" + "ab"[at]), left(net, one, both, led)[0])
            self.assertEqual((house.book("one"), house.book("b")), (one, other))

    def test_change_at_each_place(self):
        house = house_of(NET, one=ONE, b=OTHER)
        heap, matrices = ONE
        for arrow, (rows, columns, _) in enumerate(matrices):
            for row, column in itertools.product(range(rows), range(columns)):
                for number in range(5):
                    self.assertIsNone(house.change("one", arrow, row=row, column=column, number=number))
                    told = house.book("one")[1]
                    self.assertEqual(told[arrow][2][row][column], number)
                    self.assertEqual(house.book("one")[0], heap)
                    # Nothing else is changed: put back, it is the book again.
                    house.change("one", arrow, row=row, column=column, number=matrices[arrow][2][row][column])
                    self.assertEqual(house.book("one"), ONE)
        house.change("one", 0, row=1, column=0, number=(matrices[0][2][1][0] + 1) % 5)
        self.assertEqual(house.book("one"), (heap, changed(matrices, 0, 1, 0, 5)))
        self.assertEqual(house.book("b"), OTHER)

    def test_turn(self):
        for net in nets_of(SHAPES):
            leaving = [begin for begin, _ in net.arrows]
            coming = [end for _, end in net.arrows]
            for room in range(net.rooms):
                books = {name: drawn_book(net, drawn_heap(net, 1, seed), seed)
                         for seed, name in enumerate(["c", "a", "bb"])}
                house = house_of(net, **books)
                if room in leaving and room in coming:
                    self.refused_of(NoEnd, house, house.turn, room)
                    continue
                told = house.turn(room)
                self.assertEqual(told, [(name, turned(net, books[name], room)[1]) for name in ["a", "bb", "c"]])
                self.assertEqual([type(told), {type(pair) for pair in told}], [list, {tuple}])
                self.assertEqual(house.net(), net.turned(room))
                self.assertEqual(house.names(), ["a", "bb", "c"])
                for name, book in books.items():
                    self.assertEqual(house.book(name), turned(net, book, room)[0])

    def test_names(self):
        house = House(NET)
        for name in ["a", "z", "abcdefgh", "zzzzzzzz", "q", "name", "put"]:
            house.put(name, ONE)
        self.assertEqual(house.names(), ["a", "abcdefgh", "name", "put", "q", "z", "zzzzzzzz"])

    def test_a_house_over_a_net_that_is_not_few(self):
        self.not_few(House)

    def test_nothing_handed_in_is_kept(self):
        net = Net(3, ((0, 1), (2, 1)), prime=5)
        house = house_of(net, one=ONE)
        net.arrows, net.rooms = ((1, 0),), 2
        self.assertEqual(house.net(), NET)
        told = house.net()
        told.rooms = 7
        self.assertEqual(house.net(), NET)
        self.assertEqual(parts(NET, house.book("one"))[0], house.parts("one"))


class MarksTest(HouseChecks, unittest.TestCase):

    def test_marks_and_back(self):
        house = house_of(NET, one=ONE)
        told = []
        seen = []
        for at, deed in enumerate([
            lambda: house.put("b", OTHER), lambda: house.turn(1), lambda: house.take_out("one"),
            lambda: house.join("c", "b", "b"), lambda: house.change("b", 0, row=0, column=0, number=1),
        ]):
            told.append(house.mark())
            seen.append(state(house)[:2])
            self.assertEqual(house.marks(), list(range(at + 1)))
            deed()
        self.assertEqual(told, [0, 1, 2, 3, 4])
        self.assertIsNone(house.back(3))
        self.assertEqual((state(house)[:2], house.marks()), (seen[3], [0, 1, 2, 3]))
        # The mark stays, and may be gone back to again.
        house.put("zz", nought_book(house.net()))
        house.swap("b", nought_book(house.net()))
        house.back(3)
        self.assertEqual((state(house)[:2], house.marks()), (seen[3], [0, 1, 2, 3]))
        self.assertEqual(house.mark(), 4)
        house.back(0)
        self.assertEqual((state(house)[:2], house.marks()), (seen[0], [0]))
        self.refused_of(NoMark, house, house.back, 1, field="number", value=1)
        self.assertEqual(house.net(), NET)
        house.put("b", OTHER)
        house.back(0)
        self.assertEqual(house.names(), ["one"])

    def test_the_seventh_mark(self):
        house = House(NET)
        self.assertEqual([house.mark() for _ in range(6)], [0, 1, 2, 3, 4, 5])
        self.refused_of(Full, house, house.mark, field="most", value=6)
        house.back(4)
        self.assertEqual(house.mark(), 5)
        self.refused_of(Full, house, house.mark, field="most", value=6)

    def test_no_mark(self):
        house = house_of(NET, one=ONE)
        for marks in range(3):
            for thing in NO_WHOLES + [-1, marks, marks + 1, 6, VERY_LONG, -VERY_LONG]:
                self.refused_of(NoMark, house, house.back, thing, field="number", value=thing)
            house.mark()

    def test_back_behind_turns(self):
        for net in nets_of(SHAPES[2:]):
            house = house_of(net, a=drawn_book(net, (1,) * net.rooms, 1), b=drawn_book(net, (1,) * net.rooms, 2))
            before = state(house)[:2]
            house.mark()
            for room in range(net.rooms):
                try:
                    house.turn(room)
                except NoEnd:
                    pass
            house.back(0)
            self.assertEqual(state(house)[:2], before)


class RefusalsTest(HouseChecks, unittest.TestCase):

    def new_name_deeds(self, house):
        """Return each deed by a new name, with what else it takes."""
        return [
            (house.put, [], [ONE]), (house.join, ["one", "b"], []),
            (house.tie, ["one", "b"], [drawn_tie(NET, ONE, OTHER)]),
            (house.kill, ["one", "b"], [nought_map(ONE, OTHER)]), (house.leave, ["one", "b"], [nought_map(ONE, OTHER)]),
        ]

    def test_the_new_name_first(self):
        house = house_of(NET, one=ONE, b=OTHER)
        for deed, names, rest in self.new_name_deeds(house):
            for name in NO_NAMES:
                self.no_name(house, deed, name, name, *names, *rest)
                self.no_name(house, deed, name, name, *[None for _ in names + rest])
            for name in ["one", "b"]:
                self.refused_of(Standing, house, deed, name, *names, *rest, field="name", value=name)
                self.refused_of(Standing, house, deed, name, *["?" for _ in names + rest], field="name", value=name)

    def test_then_the_names_that_must_stand(self):
        house = house_of(NET, one=ONE, b=OTHER)
        for deed, names, rest in self.new_name_deeds(house)[1:]:
            for name in NO_NAMES + MISSING + ["new"]:
                self.no_name(house, deed, name, "new", name, "b", *rest)
                self.no_name(house, deed, name, "new", "one", name, *rest)
                self.no_name(house, deed, name, "new", name, "?", *[None for _ in rest])
        for name in NO_NAMES + MISSING:
            self.no_name(house, house.swap, name, name, ONE)
            self.no_name(house, house.swap, name, name, None)
            self.no_name(house, house.take_out, name, name)
            self.no_name(house, house.change, name, name, 0, row=0, column=0, number=1)
            self.no_name(house, house.change, name, name, None, row=None, column=None, number=None)
            self.no_name(house, house.book, name, name)
            self.no_name(house, house.parts, name, name)
            for deed in [house.alike, house.maps, house.ties]:
                self.no_name(house, deed, name, name, "b")
                self.no_name(house, deed, name, "one", name)
                self.no_name(house, deed, name, name, None)

    def test_then_what_else_is_handed_in(self):
        house = house_of(NET, one=ONE, b=OTHER)
        for thing in no_books(NET, ONE):
            self.refused_of(NoBook, house, house.put, "new", thing)
            self.refused_of(NoBook, house, house.swap, "one", thing)
        for thing in otherwise(drawn_tie(NET, ONE, OTHER), 5) + ANYTHING:
            self.refused_of(NoTie, house, house.tie, "new", "one", "b", thing)
        for thing in otherwise(nought_map(ONE, OTHER), 5) + ANYTHING:
            self.refused_of(NoMap, house, house.kill, "new", "one", "b", thing)
            self.refused_of(NoMap, house, house.leave, "new", "one", "b", thing)
        # Of due sizes, but no map.
        house = house_of(NET, one=((1, 1, 0), ((1, 1, ((1,),)), (1, 0, ((),)))), b=alone_book(NET, 0))
        wrong = ((1, 1, ((1,),)), (1, 0, ((),)), (0, 0, ()))
        for deed in [house.kill, house.leave]:
            self.refused_of(NoMap, house, deed, "new", "b", "one", wrong)

    def test_change(self):
        house = house_of(NET, one=ONE)
        good = {"row": 0, "column": 0, "number": 1}
        for arrow in NO_WHOLES + [-1, 2, 3, VERY_LONG, -VERY_LONG]:
            self.refused_of(NoFit, house, house.change, "one", arrow, **good)
            self.refused_of(NoFit, house, house.change, "one", arrow, row=None, column=9, number=None)
        for row in NO_WHOLES + [-1, 2, 3, VERY_LONG]:
            self.refused_of(NoFit, house, house.change, "one", 0, **{**good, "row": row})
            self.refused_of(NoFit, house, house.change, "one", 0, **{**good, "row": row, "number": None})
        for column in NO_WHOLES + [-1, 1, 2, VERY_LONG]:
            self.refused_of(NoFit, house, house.change, "one", 1, **{**good, "column": column})
            self.refused_of(NoFit, house, house.change, "one", 1, **{**good, "column": column, "number": 5})
        for number in NO_WHOLES + [-1, 5, 6, 97, VERY_LONG, -VERY_LONG]:
            self.refused_of(NoMatrix, house, house.change, "one", 0, **{**good, "number": number})
        # A matrix of no rows or no columns has no number that may be changed.
        house = house_of(NET, one=OTHER)
        self.refused_of(NoFit, house, house.change, "one", 1, **good)
        for net in [Net(1, ()), Net(2, ())]:
            house = house_of(net, one=((1, 1)[:net.rooms], ()))
            self.refused_of(NoFit, house, house.change, "one", 0, **good)

    def test_too_great_and_then_full(self):
        great = drawn_book(NET, (12, 12, 6))
        house = house_of(NET, one=ONE, b=OTHER, great=great)
        tie = drawn_tie(NET, great, ONE)
        for _ in range(2):
            self.refused_of(TooGreat, house, house.join, "new", "great", "one")
            self.refused_of(TooGreat, house, house.tie, "new", "great", "one", tie)
            self.refused_of(NoTie, house, house.tie, "new", "great", "one", None)
            for name in "cdefghijk":
                if name not in house.names():
                    house.put(name, nought_book(NET))
        self.assertEqual(len(house.names()), 12)

    def test_the_thirteenth_book(self):
        house = house_of(NET, one=ONE, b=OTHER)
        for name in "cdefghijkl":
            house.put(name, nought_book(NET))
        self.assertEqual(len(house.names()), 12)
        for deed, names, rest in self.new_name_deeds(house):
            self.refused_of(Full, house, deed, "new", *names, *rest, field="most", value=12)
            self.refused_of(Standing, house, deed, "one", *names, *rest, field="name", value="one")
        self.refused_of(NoBook, house, house.put, "new", None)
        self.refused_of(NoTie, house, house.tie, "new", "one", "b", ())
        self.refused_of(NoMap, house, house.kill, "new", "one", "b", ())
        self.refused_of(NoMap, house, house.leave, "new", "one", "b", ())
        self.no_name(house, house.join, "zz", "new", "one", "zz")
        house.swap("one", OTHER)
        house.change("one", 0, row=0, column=0, number=3)
        house.turn(1)
        self.assertEqual(len(house.names()), 12)
        house.take_out("l")
        house.join("l", "c", "d")
        self.refused_of(Full, house, house.join, "m", "c", "d", field="most", value=12)

    def test_turn(self):
        net = Net(4, ((0, 1), (1, 2), (3, 2)), prime=3)
        small = drawn_book(net, (1, 1, 1, 1))
        house = house_of(net, one=small)
        empty = House(net)
        for room in NO_WHOLES + [1, 4, 5, -1, -2, VERY_LONG, -VERY_LONG]:
            self.refused_of(NoEnd, house, house.turn, room)
            self.refused_of(NoEnd, empty, empty.turn, room)
        # One book becomes too great: no book is changed, nor the net.
        great = drawn_book(net, (0, 8, 0, 8))
        house.put("great", great)
        house.mark()
        self.refused_of(TooGreat, house, house.turn, 2)
        self.refused_of(NoEnd, house, house.turn, 1)
        self.assertEqual(house.turn(0), [("great", 0), ("one", turned(net, small, 0)[1])])


class ToldTest(HouseChecks, unittest.TestCase):

    def told_of(self, house):
        """Return all that a house tells, but marks."""
        names = house.names()
        pairs = list(itertools.product(names, repeat=2))
        return (
            state(house)[:2], [house.parts(name) for name in names], [house.alike(*pair) for pair in pairs],
            [house.maps(*pair) for pair in pairs], [house.ties(*pair) for pair in pairs],
        )

    def is_told(self, house):
        """What the house tells is what the functions tell of its net and its books."""
        net = house.net()
        books = [house.book(name) for name in house.names()]
        pairs = list(itertools.product(books, repeat=2))
        told = self.told_of(house)
        self.assertEqual(told[1:], (
            [parts(net, book)[0] for book in books], [alike(net, *pair) for pair in pairs],
            [maps(net, *pair) for pair in pairs], [ties(net, *pair) for pair in pairs],
        ))
        self.assertEqual(self.told_of(house), told)
        return told

    def test_over_all_nets(self):
        for net in nets_of(SHAPES) + nets_of(GREAT_SHAPES)[::5]:
            book = drawn_book(net, drawn_heap(net, 1, 1), 1)
            house = house_of(net, c=drawn_book(net, drawn_heap(net, 1, 2), 2), a=book, b=mixed(net, book))
            told = self.is_told(house)
            house.mark()
            # Asked behind deeds, and again at the mark.
            house.take_out("c")
            house.change("a", 0, row=0, column=0, number=1) if book[1] and min(book[1][0][:2]) else None
            self.is_told(house)
            ends = [room for room in range(net.rooms) if all(begin != room for begin, _ in net.arrows)]
            house.turn(ends[0])
            self.is_told(house)
            house.back(0)
            self.assertEqual(self.is_told(house), told)

    def test_the_order_of_deeds_does_not_count(self):
        for net in nets_of(SHAPES):
            books = {name: drawn_book(net, drawn_heap(net, 1, seed), seed) for seed, name in enumerate("abcd")}
            house = house_of(net, **books)
            other = House(net)
            other.put("e", nought_book(net))
            other.put("b", nought_book(net))
            other.mark()
            for name in ["d", "a", "c"]:
                other.put(name, books[name])
            other.take_out("e")
            other.swap("b", books["b"])
            self.assertEqual(self.told_of(other), self.told_of(house))

    def test_a_told_list_is_the_askers_own(self):
        house = house_of(NET, one=ONE, b=OTHER)
        house.mark()
        told = self.told_of(house)
        for ask in [house.names, house.marks, lambda: house.maps("one", "one"), lambda: house.ties("one", "b"),
                    lambda: house.turn(1)]:
            found = ask()
            found.append("x")
            found.reverse()
            found.clear()
            house.back(0)
            self.assertEqual(self.told_of(house), told)
            self.assertEqual(house.marks(), [0])

    def test_by_hand(self):
        net = Net(2, ((0, 1),), prime=3)
        house = house_of(net, begin=alone_book(net, 0), end=alone_book(net, 1))
        ((tie,),) = [house.ties("begin", "end")]
        house.tie("both", "begin", "end", tie)
        self.assertEqual(house.parts("both"), (((1, 1), 1),))
        self.assertEqual(house.maps("end", "begin"), [])
        ((led,),) = [house.maps("both", "begin")]
        house.kill("killed", "both", "begin", led)
        self.assertEqual(house.alike("killed", "end")[0], "alike")
        ((led,),) = [house.maps("end", "both")]
        house.leave("rest", "end", "both", led)
        self.assertEqual(house.alike("rest", "end"), ("unlike", (0, 1), 0, 1))
        self.assertEqual(house.turn(1), [("begin", 0), ("both", 0), ("end", 1), ("killed", 1), ("rest", 0)])
        self.assertEqual(house.net().arrows, ((1, 0),))
        self.assertEqual([house.parts(name) for name in ["begin", "both", "end"]],
                         [(((1, 1), 1),), (((1, 0), 1),), ()])


class HistoryTest(HouseChecks, unittest.TestCase):

    def test_deeds_by_chance(self):
        # Every book that comes to stand is one of the net of then, with maps of its counts' book there and back.
        for net in nets_of(SHAPES):
            chance = chance_of("history", net.arrows, net.prime)
            house = House(net)
            for step in range(25):
                try:
                    self.do_one(house, chance, step)
                except (TooGreat, Full, Standing, NoEnd, NoName, NoFit, NoMark):
                    continue
            for name in house.names():
                book = house.book(name)
                self.is_made_book(house.net(), book)
                counts, there, back = parts(house.net(), book)
                self.is_undone(there, back, net.prime)
                self.assertEqual(house.parts(name), counts)

    def do_one(self, house, chance, step):
        net, names = house.net(), house.names() or ["a"]
        new, one, other = chance.choice("abcdefghijkl"), chance.choice(names), chance.choice(names)
        deed = chance.choice(["put", "put", "join", "tie", "kill", "leave", "change", "take", "turn", "mark", "back"])
        if deed == "put":
            house.put(new, drawn_book(net, fit_heap(net, drawn_heap(net, 2, step)), step))
        elif deed == "join":
            house.join(new, one, other)
        elif deed == "tie":
            house.tie(new, one, other, drawn_tie(net, house.book(one), house.book(other), step))
        elif deed in ["kill", "leave"]:
            led = (house.maps(one, other) + [nought_map(house.book(one), house.book(other))])[0]
            (house.kill if deed == "kill" else house.leave)(new, one, other, led)
        elif deed == "change":
            house.change(one, 0, row=0, column=0, number=chance.randrange(net.prime))
        elif deed == "take":
            house.take_out(one)
        elif deed == "turn":
            house.turn(chance.randrange(net.rooms))
        elif deed == "mark":
            house.mark()
        else:
            house.back(chance.randrange(3))

    def test_over_the_greatest_net(self):
        net = shuffled(8, hand(8), 97)
        house = house_of(net, one=drawn_book(net, (1,) * 8))
        house.tie("tied", "one", "one", drawn_tie(net, house.book("one"), house.book("one")))
        self.assertEqual(house.kill("all", "one", "tied", nought_map(house.book("one"), house.book("tied"))), None)
        self.assertEqual(house.alike("one", "all"), ("alike", ones_map(house.book("one")), ones_map(house.book("one"))))
        self.assertEqual(sum(many * sum(root) for root, many in house.parts("tied")), 16)


if __name__ == "__main__":
    unittest.main()
