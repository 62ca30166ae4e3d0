"""Counts lowered by ties, one after the other, to the plain one of their heap."""

from rootrooms.nets import form, need_few
from rootrooms.parts import counts_of, need_counts, part_of
from rootrooms.ties import tied, ties


def lowered(net, counts):
    """Tell ties (over, under, tie) of a part over a part, by which counts come to the plain one of their heap.

    They are tied one after the other. What is tied by a tie that isn't undone has fewer maps to itself
    than what is joined: so this ends, and only where no part has a tie over another.
    """
    need_few(net)
    need_counts(net, counts)
    now = {root: many for root, many in counts}
    told = []
    found = _roots_to_tie(net, now)
    while found is not None:
        over, under = found
        over_part, under_part = part_of(net, over), part_of(net, under)
        tie = ties(net, over_part, under_part)[0]
        told.append((over, under, tie))
        book = tied(net, over_part, under_part, tie)[0]
        now = _replaced(now, found, counts_of(net, book))
        found = _roots_to_tie(net, now)
    return told


def _roots_to_tie(net, counts):
    """Tell two roots of the counts, the part of the first having ties over the second's, or None."""
    for over in sorted(counts):
        for under in sorted(counts):
            if form(net, over, under) < 0:
                return over, under
    return None


def _replaced(counts, found, more):
    """Tell the counts with these parts in place of one of each found root."""
    told = {root: many for root, many in counts.items()}
    for root in found:
        told[root] -= 1
    for root, many in more:
        told[root] = told.get(root, 0) + many
    return {root: many for root, many in told.items() if many}
