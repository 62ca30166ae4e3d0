"""The looker: papers looked at by products and sums alone.

Of each word there is a function that tells the first clause of a paper that isn't so, or None: a later
clause is looked at only where those before it hold, so that all it needs is of due sizes.
"""

from rootrooms.books import are_sized, is_map, led_on, need_book, ones_of, room_sizes
from rootrooms.errors import NoPaper
from rootrooms.matrices import flipped, noughts, plus, product, times
from rootrooms.nets import form, need_heap
from rootrooms.ties import is_tie
from rootrooms.undoing import laid_out

# How many parts a paper has, its word being one, and how many of them, right behind the word, are books.
PARTS = {"alike": 5, "back": 5, "through": 7, "undone": 5, "held": 5, "bar": 2}
BOOKS = {"alike": 2, "back": 2, "through": 3, "undone": 2, "held": 2, "bar": 0}


def look(net, paper):
    """Tell ("right",) of a paper, or ("wrong", k), k the first clause that isn't so."""
    if not isinstance(paper, tuple) or not paper or not isinstance(paper[0], str) or paper[0] not in LOOKS:
        raise NoPaper("a tuple that begins with the word of a paper is due")
    word = paper[0]
    if len(paper) != PARTS[word]:
        raise NoPaper("the paper has other than so many parts")
    for thing in paper[1:BOOKS[word] + 1]:
        need_book(net, thing)
    if word == "bar":
        need_heap(net, paper[1])
    look_at = LOOKS[word]
    wrong = look_at(net, paper)
    if wrong is None:
        return ("right",)
    return "wrong", wrong


def _look_at_alike(net, paper):
    one, other, there, back = paper[1:]
    if not is_map(net, one, other, there):
        return 0
    if not is_map(net, other, one, back):
        return 1
    if led_on(net, there, back) != ones_of(net, one):
        return 2
    if led_on(net, back, there) != ones_of(net, other):
        return 3
    return None


def _look_at_back(net, paper):
    one, other, led, way = paper[1:]
    if not is_map(net, one, other, led):
        return 0
    if not is_map(net, other, one, way):
        return 1
    if led_on(net, way, led) != ones_of(net, other):
        return 2
    return None


def _look_at_through(net, paper):
    one, middle, other, led, way, out = paper[1:]
    if not is_map(net, one, other, led):
        return 0
    if not is_map(net, one, middle, way):
        return 1
    if not is_map(net, middle, other, out):
        return 2
    if led_on(net, way, out) != led:
        return 3
    return None


def _look_at_undone(net, paper):
    over, under, tie, h = paper[1:]
    if not is_tie(net, over, under, tie):
        return 0
    if not are_sized(h, room_sizes(over[0], under[0]), net.prime):
        return 1
    for arrow, (begin, end) in enumerate(net.arrows):
        one = product(under[1][arrow], h[begin], prime=net.prime)
        other = product(h[end], over[1][arrow], prime=net.prime)
        if _less(one, other, net.prime) != tie[arrow]:
            return 2
    return None


def _look_at_held(net, paper):
    over, under, tie, weights = paper[1:]
    if not is_tie(net, over, under, tie):
        return 0
    if not is_tie(net, over, under, weights):
        return 1
    for room in range(net.rooms):
        if _weighed(net, over, under, weights, room) != noughts(under[0][room], over[0][room]):
            return 2
    if sum([x * y for x, y in zip(laid_out(weights), laid_out(tie))]) % net.prime == 0:
        return 3
    return None


def _look_at_bar(net, paper):
    heap = paper[1]
    if not any(heap):
        return 0
    if form(net, heap, heap) > 0:
        return 1
    return None


def _less(one, other, prime):
    return plus(one, times(-1, other, prime=prime), prime=prime)


def _weighed(net, over, under, weights, room):
    """Tell a matrix: for each place of h at this room, what the weights tell of the tie undone by 1 there, 0 else."""
    total = noughts(under[0][room], over[0][room])
    for arrow, (begin, end) in enumerate(net.arrows):
        if begin == room:
            turned = flipped(under[1][arrow], prime=net.prime)
            total = plus(total, product(turned, weights[arrow], prime=net.prime), prime=net.prime)
        if end == room:
            turned = flipped(over[1][arrow], prime=net.prime)
            total = _less(total, product(weights[arrow], turned, prime=net.prime), net.prime)
    return total


LOOKS = {
    "alike": _look_at_alike,
    "back": _look_at_back,
    "through": _look_at_through,
    "undone": _look_at_undone,
    "held": _look_at_held,
    "bar": _look_at_bar,
}
