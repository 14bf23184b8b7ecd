"""The desk: a list of calls is gone through on eight slots, all empty at its beginning."""

from arraydesk.making import making_answer
from arraydesk.pairs import pair_answer
from arraydesk.picking import picking_answer
from arraydesk.reader import Reader, read_rows, read_wholes
from arraydesk.reckoning import reckoning_answer
from arraydesk.sections import section_answer
from arraydesk.slots import empty_slots
from arraydesk.telling import telling_answer
from arraydesk.texts import text_answer
from arraydesk.turning import turning_answer

# Of each call: how many whole numbers it has, then how many rows.
FORMS = {
    1: (1, 2),
    2: (2, 1),
    3: (3, 1),
    4: (1, 0),
    5: (1, 0),
    6: (1, 0),
    7: (1, 1),
    8: (2, 1),
    9: (2, 1),
    10: (2, 1),
    11: (2, 1),
    12: (2, 1),
    13: (4, 0),
    14: (4, 0),
    15: (4, 0),
    16: (4, 0),
    17: (4, 0),
    18: (4, 0),
    19: (3, 0),
    20: (4, 0),
    21: (3, 0),
    22: (4, 0),
    23: (3, 0),
    24: (2, 0),
    25: (1, 0),
    26: (1, 1),
}


def call_answer(slots, call, wholes, rows):
    if call <= 4:
        return making_answer(slots, call, wholes, rows)
    if call <= 8:
        return telling_answer(slots, call, wholes, rows)
    if call <= 11:
        return section_answer(slots, call, wholes, rows)
    if call <= 15:
        return turning_answer(slots, call, wholes, rows)
    if call <= 18:
        return reckoning_answer(slots, call, wholes)
    if call <= 22:
        return picking_answer(slots, call, wholes)
    if call <= 24:
        return pair_answer(slots, call, wholes)
    return text_answer(slots, call, wholes, rows)


def next_answer(slots, reader):
    call = reader.read_whole()
    form = FORMS[call]
    wholes = read_wholes(reader, form[0])
    rows = read_rows(reader, form[1])
    return call_answer(slots, call, wholes, rows)


def answers(calls):
    """For each call, in order: how many numbers it answers, then these."""
    slots = empty_slots()
    reader = Reader(calls)
    told = []
    while not reader.is_done():
        answer = next_answer(slots, reader)
        told.append(len(answer))
        told.extend(answer)
    return told
