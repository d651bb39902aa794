"""Orders in which pieces are joined, and how much they wear."""

from itertools import permutations

from wearswings.closed import closed_cycles
from wearswings.counts import Count
from wearswings.errors import TooLarge

# The greatest number of pieces of which all orders are tried.
MOST_PIECES = 6


def wear_of(pieces, order, table, *, closed=False):
    """Returns the wear of pieces that are joined in an order, once, or repeated for ever if closed is True."""
    return table.wear(_half_cycles(pieces, order, closed))


def best_order(pieces, table, *, closed=False):
    """Returns an order of pieces with the least wear, joined once, or repeated for ever if closed is True.

    Raises TooLarge(count) if there are more than six pieces.
    """
    if len(pieces) > MOST_PIECES:
        raise TooLarge(len(pieces))
    # The cycles of each piece are there in every order. So the rests alone tell which order wears least.
    rests = [Count.of(piece).rest for piece in pieces]
    amounts = {}
    best, least = (), None
    for order in permutations(range(len(rests))):
        wear = _wear(_half_cycles(rests, order, closed), table, amounts)
        if least is None or wear < least:
            best, least = order, wear
    return best


def _half_cycles(pieces, order, closed):
    """Returns the half-cycles of the joined pieces, or the closed cycles, twice each, if closed is True."""
    load = [reading for place in order for reading in pieces[place]]
    if closed:
        return closed_cycles(load) * 2
    return Count.of(load).half_cycles


def _wear(halves, table, amounts):
    """Returns the wear of half-cycles, and keeps the amounts of their ranges, which other orders have too."""
    for low, high in halves:
        if (low, high) not in amounts:
            amounts[low, high] = table.amount(low, high)
    return sum([amounts[half] for half in halves])
