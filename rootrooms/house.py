"""The house: books by names over a net, and what stood there at its marks."""

from rootrooms.between import maps
from rootrooms.books import joined, need_book
from rootrooms.cuts import killed, left
from rootrooms.errors import Full, NoFit, NoMark, NoMatrix, NoName, Standing
from rootrooms.nets import Net, need_few
from rootrooms.parts import alike, counts_of
from rootrooms.ties import tied, ties
from rootrooms.turning import need_end, turned
from rootrooms.wholes import is_whole_to

MOST_BOOKS = 12
MOST_MARKS = 6
MOST_LETTERS = 8


class House:
    """Books that stand by their names, the net under them, and the marks: each a net with the books of then."""

    def __init__(self, net):
        need_few(net)
        self.ground = _same(net)
        self.standing = {}
        self.marked = []

    def put(self, name, book):
        """Put a book by a new name."""
        self._need_new(name)
        need_book(self.ground, book)
        self._stand(name, book)

    def swap(self, name, book):
        """Put a book in place of the one of a name."""
        self._need_standing(name)
        need_book(self.ground, book)
        self.standing[name] = book

    def join(self, name, one, other):
        """Put by a new name what two books joined come to."""
        self._need_new(name)
        self._need_standing(one)
        self._need_standing(other)
        self._stand(name, joined(self.ground, [self.standing[one], self.standing[other]]))

    def tie(self, name, over, under, tie):
        """Put by a new name the book tied of one over another by a tie."""
        self._need_new(name)
        self._need_standing(over)
        self._need_standing(under)
        self._stand(name, tied(self.ground, self.standing[over], self.standing[under], tie)[0])

    def kill(self, name, one, other, led):
        """Put by a new name what a map of one book to another kills."""
        self._need_new(name)
        self._need_standing(one)
        self._need_standing(other)
        self._stand(name, killed(self.ground, self.standing[one], self.standing[other], led)[0])

    def leave(self, name, one, other, led):
        """Put by a new name what a map of one book to another leaves."""
        self._need_new(name)
        self._need_standing(one)
        self._need_standing(other)
        self._stand(name, left(self.ground, self.standing[one], self.standing[other], led)[0])

    def change(self, name, arrow, *, row, column, number):
        """Change one number of an arrow's matrix in a book."""
        self._need_standing(name)
        heap, matrices = self.standing[name]
        _need_below(len(matrices), arrow)
        rows, columns, numbers = matrices[arrow]
        _need_below(rows, row)
        _need_below(columns, column)
        if not is_whole_to(number, self.ground.prime - 1):
            raise NoMatrix("a number from 0 to the prime less 1 is due")
        line = _put_at(numbers[row], column, number)
        matrix = rows, columns, _put_at(numbers, row, line)
        self.standing[name] = heap, _put_at(matrices, arrow, matrix)

    def take_out(self, name):
        """Take a book out."""
        self._need_standing(name)
        del self.standing[name]

    def turn(self, room):
        """Turn the net and all books at an end, and tell by names, rising, how many stood alone there."""
        need_end(self.ground, room)
        found = {name: turned(self.ground, self.standing[name], room) for name in sorted(self.standing)}
        self.ground = self.ground.turned(room)
        self.standing = {name: found[name][0] for name in found}
        return [(name, found[name][1]) for name in found]

    def mark(self):
        """Mark the net and the books as they are now, and tell how many marks stood."""
        if len(self.marked) == MOST_MARKS:
            raise Full(MOST_MARKS)
        self.marked.append((self.ground, dict(self.standing)))
        return len(self.marked) - 1

    def back(self, number):
        """Let net and books be as at a mark, and later marks go."""
        if not is_whole_to(number, len(self.marked) - 1):
            raise NoMark(number)
        ground, books = self.marked[number]
        self.ground = ground
        self.standing = dict(books)
        self.marked = self.marked[:number + 1]

    def net(self):
        """Tell the net as it is now."""
        return _same(self.ground)

    def names(self):
        """Tell the names of the books, rising."""
        return sorted(self.standing)

    def marks(self):
        """Tell the numbers of the marks, rising."""
        return list(range(len(self.marked)))

    def book(self, name):
        """Tell the book of a name."""
        self._need_standing(name)
        return self.standing[name]

    def parts(self, name):
        """Tell the counts of the book of a name."""
        self._need_standing(name)
        return counts_of(self.ground, self.standing[name])

    def alike(self, one, other):
        """Tell whether two books are alike, as the function alike tells it."""
        self._need_standing(one)
        self._need_standing(other)
        return alike(self.ground, self.standing[one], self.standing[other])

    def maps(self, one, other):
        """Tell maps of one book to another, as the function maps tells them."""
        self._need_standing(one)
        self._need_standing(other)
        return maps(self.ground, self.standing[one], self.standing[other])

    def ties(self, over, under):
        """Tell ties of one book over another, as the function ties tells them."""
        self._need_standing(over)
        self._need_standing(under)
        return ties(self.ground, self.standing[over], self.standing[under])

    def _need_new(self, name):
        if not _is_name(name):
            raise NoName(name)
        if name in self.standing:
            raise Standing(name)

    def _need_standing(self, name):
        if not _is_name(name) or name not in self.standing:
            raise NoName(name)

    def _stand(self, name, book):
        if len(self.standing) == MOST_BOOKS:
            raise Full(MOST_BOOKS)
        self.standing[name] = book


def _is_name(thing):
    if not isinstance(thing, str) or not 1 <= len(thing) <= MOST_LETTERS:
        return False
    return all(["a" <= sign <= "z" for sign in thing])


def _same(net):
    """Tell a net of its own that is equal to this one."""
    return Net(net.rooms, net.arrows, prime=net.prime)


def _need_below(many, thing):
    if not is_whole_to(thing, many - 1):
        raise NoFit("there is no such arrow, row or column")


def _put_at(things, at, thing):
    return things[:at] + (thing,) + things[at + 1:]
