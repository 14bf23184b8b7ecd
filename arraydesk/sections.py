"""The calls that spread an array, cut a section out and put one back: 9 to 11.

Cuts are one list: from, step and count of axis 0, then of axis 1, and so on.
"""

from arraydesk.arrays import Array
from arraydesk.refusals import BEYOND, NOWHERE, UNLIKE, WRONG
from arraydesk.shapes import is_shape, number_of, places_of
from arraydesk.slots import keep, slots_refusal, sources_refusal
from arraydesk.spreading import spread_array, spreads

MOST_COUNT = 1024


def section_lengths(cuts):
    return [cuts[at] for at in range(2, len(cuts), 3)]


def are_cuts(lengths, cuts):
    if len(cuts) != 3 * len(lengths):
        return False
    for count in section_lengths(cuts):
        if count < 1 or count > MOST_COUNT:
            return False
    return True


def cuts_lie_within(lengths, cuts):
    for axis, length in enumerate(lengths):
        first = cuts[3 * axis]
        last = first + cuts[3 * axis + 1] * (cuts[3 * axis + 2] - 1)
        # A cut goes one way only: all its other places lie between these two.
        if min(first, last) < 0 or max(first, last) >= length:
            return False
    return True


def place_before_cut(cuts, place):
    """The place in the whole array of a place of its section."""
    return [cuts[3 * axis] + cuts[3 * axis + 1] * number for axis, number in enumerate(place)]


def section_numbers(lengths, cuts):
    """The numbers that the section's cells have in the whole array, in the section's order."""
    places = places_of(section_lengths(cuts))
    return [number_of(lengths, place_before_cut(cuts, place)) for place in places]


def call_spread(slots, k, i, lengths):
    refusal = slots_refusal(slots, k, [i])
    if refusal != 0:
        return [refusal]
    if not is_shape(lengths):
        return [WRONG]
    if not spreads(slots[i].lengths, lengths):
        return [UNLIKE]
    return keep(slots, k, spread_array(slots[i], lengths))


def call_cut(slots, k, i, cuts):
    refusal = slots_refusal(slots, k, [i])
    if refusal != 0:
        return [refusal]
    array = slots[i]
    if not are_cuts(array.lengths, cuts):
        return [WRONG]
    if not is_shape(section_lengths(cuts)):
        return [BEYOND]
    if not cuts_lie_within(array.lengths, cuts):
        return [NOWHERE]
    cells = [array.cells[cell] for cell in section_numbers(array.lengths, cuts)]
    return keep(slots, k, Array(section_lengths(cuts), cells))


def call_put(slots, i, j, cuts):
    refusal = sources_refusal(slots, [i, j])
    if refusal != 0:
        return [refusal]
    array = slots[i]
    part = slots[j]
    if not are_cuts(array.lengths, cuts):
        return [WRONG]
    if not cuts_lie_within(array.lengths, cuts):
        return [NOWHERE]
    if part.lengths != section_lengths(cuts):
        return [UNLIKE]
    changed = list(array.cells)
    for cell, value in zip(section_numbers(array.lengths, cuts), part.cells):
        changed[cell] = value
    return keep(slots, i, Array(array.lengths, changed))


def section_answer(slots, call, wholes, rows):
    if call == 9:
        return call_spread(slots, wholes[0], wholes[1], rows[0])
    if call == 10:
        return call_cut(slots, wholes[0], wholes[1], rows[0])
    return call_put(slots, wholes[0], wholes[1], rows[0])
