"""Books turned at an end of their net, maps between these, and what comes back."""

from rootrooms.books import alone, joined, need_book, need_map, ones_of, undone
from rootrooms.ends import arrows_at, flips, over_sink, over_source
from rootrooms.errors import NoEnd, TooGreat
from rootrooms.lines import fills, solved, undo
from rootrooms.matrices import above, beside, flipped, product
from rootrooms.nets import is_heap, others, sinks, sources
from rootrooms.wholes import is_whole


def turned(net, book, room):
    """Tell the book turned at an end, and how many stand alone there."""
    need_book(net, book)
    need_end(net, room)
    return turned_at(net, book, room)


def turned_map(net, one, other, led, *, room):
    """Tell the map of the one book to the other, both turned at an end, that is this map at all other rooms."""
    need_book(net, one)
    need_book(net, other)
    need_map(net, one, other, led)
    need_end(net, room)
    first = turned_at(net, one, room)[0]
    second = turned_at(net, other, room)[0]
    if room in sinks(net):
        there = _led_over_sink(net, first, second, led, room)
    else:
        there = _led_over_source(net, first, second, led, room)
    return led[:room] + (there,) + led[room + 1:]


def returned(net, book, room):
    """Tell the book turned twice at an end, joined with what stood alone there, and maps to the book and back."""
    need_book(net, book)
    need_end(net, room)
    over, many = turned_at(net, book, room)
    again = turned_at(net.turned(room), over, room)[0]
    other = joined(net, [again] + [alone(net, room)] * many)
    elder = _matrices_at(net, book, room)
    here = _matrices_at(net, again, room)
    if room in sinks(net):
        matrix = _filled(here, elder, again[0][room], book[0][room], net.prime)
    else:
        elder, here = flips(elder, prime=net.prime), flips(here, prime=net.prime)
        back = _filled(here, elder, again[0][room], book[0][room], net.prime)
        matrix = undo(flipped(back, prime=net.prime), prime=net.prime)
    same = ones_of(net, book)
    there = same[:room] + (matrix,) + same[room + 1:]
    return other, there, undone(net, other, book, there)


def need_end(net, thing):
    """Refuse what is no end of the net."""
    if not is_whole(thing) or thing not in sinks(net) + sources(net):
        raise NoEnd("an end of the net is due")


def turned_at(net, book, room):
    """Tell the book turned at an end, and how many stand alone there, where nothing else is to be refused."""
    heap, maps = book
    elder = _matrices_at(net, book, room)
    if room in sinks(net):
        there, new = over_sink(elder, rows=heap[room], prime=net.prime)
    else:
        there, new = over_source(elder, columns=heap[room], prime=net.prime)
    rest = heap[:room] + (there,) + heap[room + 1:]
    if not is_heap(net, rest):
        raise TooGreat("the heap of the book turned is none")
    told = list(maps)
    for arrow, matrix in zip(arrows_at(net, room), new):
        told[arrow] = matrix
    return (rest, tuple(told)), there + heap[room] - sum([heap[other] for other in others(net, room)])


def _matrices_at(net, book, room):
    return [book[1][arrow] for arrow in arrows_at(net, room)]


def _led_over_sink(net, first, second, led, room):
    """Tell what the second one's matrices, above one another, lead to the first one's, each led on by the map."""
    onward = []
    for arrow in arrows_at(net, room):
        begin, end = net.arrows[arrow]
        onward.append(product(led[begin], first[1][arrow], prime=net.prime))
    below = above(_matrices_at(net, second, room), columns=second[0][room], prime=net.prime)
    return solved(below, above(onward, columns=first[0][room], prime=net.prime), prime=net.prime)[1]


def _led_over_source(net, first, second, led, room):
    """Tell by what the first one's matrices, beside one another, come to the second one's, each behind the map."""
    onward = []
    for arrow in arrows_at(net, room):
        begin, end = net.arrows[arrow]
        onward.append(product(second[1][arrow], led[end], prime=net.prime))
    right = beside(onward, rows=second[0][room], prime=net.prime)
    return _factor(beside(_matrices_at(net, first, room), rows=first[0][room], prime=net.prime), right, net.prime)


def _filled(here, elder, many, rows, prime):
    """Tell a matrix with a contrary: first what leads these matrices to the elder ones, then what fills it.

    Beside one another both kill the same, so that each of the elder ones comes from one of these in one way.
    """
    first = _factor(beside(here, rows=many, prime=prime), beside(elder, rows=rows, prime=prime), prime)
    return beside([first, fills(first, prime=prime)], rows=rows, prime=prime)


def _factor(one, right, prime):
    """Tell what times one, of rows of full rank, is right, whose rows are sums of times of these."""
    found = solved(flipped(one, prime=prime), flipped(right, prime=prime), prime=prime)[1]
    return flipped(found, prime=prime)
