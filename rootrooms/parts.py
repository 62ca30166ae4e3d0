"""Parts of few nets, counts of them, and what parts a book is made of."""

from rootrooms.books import joined, led_on, need_book
from rootrooms.errors import NoCounts
from rootrooms.falls import alones, falls, risen, root_of, starts, turn_of
from rootrooms.lines import undo
from rootrooms.matrices import beside
from rootrooms.nets import is_heap, need_few
from rootrooms.roots import is_root, need_root
from rootrooms.wholes import is_whole


def part(net, root):
    """Tell a book of this heap all of whose maps to itself are times of its ones."""
    need_few(net)
    need_root(net, root)
    return part_of(net, root)


def is_counts(net, thing):
    """Tell of anything whether it is counts over the net."""
    need_few(net)
    return _is_counts(net, thing)


def book_of(net, counts):
    """Tell the joined book of the parts, each so often."""
    need_few(net)
    need_counts(net, counts)
    return joined(net, [book for root, many in counts for book in [part_of(net, root)] * many])


def parts(net, book):
    """Tell a book's counts, and maps of their book to it and back."""
    need_few(net)
    need_book(net, book)
    fallen = falls(net, book)
    found = {}
    for turn in range(len(fallen)):
        first = starts(net, turn, fallen)
        if first:
            (heap, _), ways = risen(net, turn, fallen, first)
            found[heap] = ways
    counts = tuple([(root, len(found[root])) for root in sorted(found)])
    there = []
    for room in range(net.rooms):
        columns = [way[room] for root, _ in counts for way in found[root]]
        there.append(beside(columns, rows=book[0][room], prime=net.prime))
    return counts, tuple(there), tuple([undo(matrix, prime=net.prime) for matrix in there])


def alike(net, one, other):
    """Tell maps of one to other and back, or the first root that stands unlike often in the two."""
    need_few(net)
    need_book(net, one)
    need_book(net, other)
    counts, other_counts = counts_of(net, one), counts_of(net, other)
    if counts != other_counts:
        return _unlike(dict(counts), dict(other_counts))
    _, from_parts, to_parts = parts(net, one)
    _, other_from, other_to = parts(net, other)
    return "alike", led_on(net, to_parts, other_from), led_on(net, other_to, from_parts)


def need_counts(net, thing):
    """Refuse what is no counts over a few net."""
    if not _is_counts(net, thing):
        raise NoCounts("counts over the net are due")


def part_of(net, root):
    """Tell the part of what is a root of a few net."""
    return risen(net, turn_of(net, root), [], [])[0]


def counts_of(net, book):
    """Tell the counts of what is a book over a few net, without maps."""
    return tuple(sorted([(root_of(net, turn), many) for turn, many in enumerate(alones(net, book)) if many]))


def heap_counted(net, counts):
    """Tell what the heaps of roots, each so often, come to: perhaps no heap."""
    return tuple([sum([many * root[room] for root, many in counts]) for room in range(net.rooms)])


def _is_counts(net, thing):
    if not isinstance(thing, tuple) or not all([_is_count(net, pair) for pair in thing]):
        return False
    rising = all([one[0] < other[0] for one, other in zip(thing, thing[1:])])
    return rising and is_heap(net, heap_counted(net, thing))


def _is_count(net, thing):
    if not isinstance(thing, tuple) or len(thing) != 2:
        return False
    return is_root(net, thing[0]) and is_whole(thing[1]) and thing[1] >= 1


def _unlike(counts, others):
    """Tell of unlike counts, by their roots, the first root that stands unlike often in them."""
    for root in sorted(list(counts) + list(others)):
        many, other_many = counts.get(root, 0), others.get(root, 0)
        if many != other_many:
            return "unlike", root, many, other_many
