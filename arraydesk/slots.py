"""The eight slots, and what is refused of a slot before all else."""

from arraydesk.refusals import BEYOND, EMPTY, WRONG

SLOTS = 8


def empty_slots():
    return [None for slot in range(SLOTS)]


def target_refusal(k):
    """Why nothing can come into slot k, or 0."""
    if k >= SLOTS:
        return WRONG
    return 0


def source_refusal(slots, i):
    """Why there is no array in slot i, or 0."""
    if i >= SLOTS:
        return WRONG
    if slots[i] is None:
        return EMPTY
    return 0


def sources_refusal(slots, sources):
    """The first refusal among the slots that a call is made of, or 0."""
    for i in sources:
        refusal = source_refusal(slots, i)
        if refusal != 0:
            return refusal
    return 0


def slots_refusal(slots, k, sources):
    """The first refusal of slot k, then of the slots that a call is made of, or 0."""
    refusal = target_refusal(k)
    if refusal != 0:
        return refusal
    return sources_refusal(slots, sources)


def axis_refusal(slots, k, sources, axis):
    """The first refusal as of slots_refusal, then of an axis of the first source, or 0."""
    refusal = slots_refusal(slots, k, sources)
    if refusal != 0:
        return refusal
    if axis >= len(slots[sources[0]].lengths):
        return WRONG
    return 0


def keep(slots, k, array):
    """Puts an array into slot k, and answers its lengths."""
    slots[k] = array
    return [0] + array.lengths


def keep_reckoned(slots, k, array):
    """As keep, but refused if there is none of some cell: None stands for it."""
    if None in array.cells:
        return [BEYOND]
    return keep(slots, k, array)
