"""How a small shape spreads to a great one, and where two shapes meet."""

from arraydesk.arrays import Array, cell_at
from arraydesk.shapes import places_of


def spreads(small, great):
    ahead = len(great) - len(small)
    if ahead < 0:
        return False
    for length, wanted in zip(small, great[ahead:]):
        if length != wanted and length != 1:
            return False
    return True


def place_before_spread(small, place):
    """The place in the small shape whose cell stands at a place of the great one."""
    ahead = len(place) - len(small)
    return [0 if length == 1 else number for length, number in zip(small, place[ahead:])]


def spread_array(array, lengths):
    cells = [cell_at(array, place_before_spread(array.lengths, place)) for place in places_of(lengths)]
    return Array(lengths, cells)


def with_ones_ahead(lengths, rank):
    return [1 for axis in range(rank - len(lengths))] + lengths


def meeting_lengths(first, second):
    """The lengths in which two shapes meet (maybe of more cells than may be), or None."""
    rank = max(len(first), len(second))
    met = []
    for one, other in zip(with_ones_ahead(first, rank), with_ones_ahead(second, rank)):
        if one != other and one != 1 and other != 1:
            return None
        met.append(max(one, other))
    return met
