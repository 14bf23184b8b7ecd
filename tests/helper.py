"""What the tests share: calls written by name, a second way of answering them, and small shapes."""

import itertools
import unittest

from arraydesk.desk import answers

NUMBERS = {
    "make": 1, "fill": 2, "count": 3, "drop": 4, "shape": 5, "cells": 6, "at": 7, "set": 8,
    "spread": 9, "cut": 10, "put": 11, "turn": 12, "join": 13,
}
GREATEST = 10 ** 15
INT64_LEAST = -2 ** 63
INT64_MOST = 2 ** 63 - 1
WORD_MOST = 2 ** 32 - 1
MOST_CALLS = 30


def encoded(calls):
    numbers = []
    for name, *arguments in calls:
        numbers.append(NUMBERS[name])
        for argument in arguments:
            if isinstance(argument, int):
                numbers.append(argument)
            else:
                numbers.append(len(argument))
                numbers.extend(argument)
    return numbers


def decoded(told):
    found = []
    at = 0
    while at < len(told):
        size = told[at]
        assert size >= 1 and at + 1 + size <= len(told), told
        found.append(told[at + 1:at + 1 + size])
        at += 1 + size
    return found


def ask(calls):
    """The answers to calls, each one as a list; what is handed in must keep to the document's bounds."""
    assert 1 <= len(calls) <= MOST_CALLS, len(calls)
    handed = encoded(calls)
    assert len(handed) <= 16000, len(handed)
    kept = list(handed)
    told = answers(handed)
    assert handed == kept, "what was handed in was changed"
    assert all(type(number) is int for number in told)
    found = decoded(told)
    assert len(found) == len(calls)
    return found


DUMP = [(name, slot) for slot in range(8) for name in ("shape", "cells")]


def dumped(setup):
    """Shape and cells of each slot after the calls of setup."""
    found = ask(list(setup) + DUMP)[len(setup):]
    return [(found[2 * slot], found[2 * slot + 1]) for slot in range(8)]


class DeskCase(unittest.TestCase):
    def answer(self, setup, *call):
        return ask(list(setup) + [call])[-1]

    def refused(self, number, setup, *call):
        """The call is refused by that number alone, and changes no slot."""
        self.assertEqual(self.answer(setup, *call), [number], call)
        self.assertEqual(dumped(list(setup) + [call]), dumped(setup), call)

    def made(self, slot, lengths, cells, setup, *call):
        """The call tells the lengths, its slot has the cells, and no other slot changes."""
        self.assertEqual(self.answer(setup, *call), [0] + lengths, call)
        before = dumped(setup)
        after = dumped(list(setup) + [call])
        self.assertEqual(after[slot], ([0] + lengths, [0] + cells), call)
        for other in range(8):
            if other != slot:
                self.assertEqual(after[other], before[other], call)

    def told(self, expected, setup, *call):
        """The call tells that, and changes no slot."""
        self.assertEqual(self.answer(setup, *call), [0] + expected, call)
        self.assertEqual(dumped(list(setup) + [call]), dumped(setup), call)


def places(lengths):
    return list(itertools.product(*[range(length) for length in lengths]))


def small_shapes(most):
    """All shapes of rank 0 to 4 with lengths from 1 to most."""
    return [list(lengths) for rank in range(5) for lengths in itertools.product(range(1, most + 1), repeat=rank)]


def product(lengths):
    cells = 1
    for length in lengths:
        cells *= length
    return cells


def is_shape(lengths):
    return len(lengths) <= 4 and all(length >= 1 for length in lengths) and product(lengths) <= 1024


class Refused(Exception):
    pass


def check(holds, number):
    if not holds:
        raise Refused(number)


class Model:
    """Answers the calls by tables from places to cells, never by cells' numbers."""

    def __init__(self):
        self.slots = {}

    def answer(self, name, *arguments):
        try:
            return [0] + getattr(self, "call_" + name)(*arguments)
        except Refused as refused:
            return [refused.args[0]]

    def target(self, k):
        check(k <= 7, -1)

    def source(self, i):
        check(i <= 7, -1)
        check(i in self.slots, -2)
        return self.slots[i]

    def keep(self, k, lengths, cells):
        self.slots[k] = (list(lengths), dict(zip(places(lengths), cells)))
        return list(lengths)

    def call_make(self, k, lengths, cells):
        self.target(k)
        check(is_shape(lengths) and len(cells) == product(lengths), -1)
        check(all(abs(cell) <= GREATEST for cell in cells), -1)
        return self.keep(k, lengths, cells)

    def call_fill(self, k, v, lengths):
        self.target(k)
        check(is_shape(lengths) and abs(v) <= GREATEST, -1)
        return self.keep(k, lengths, [v] * product(lengths))

    def call_count(self, k, start, step, lengths):
        self.target(k)
        check(is_shape(lengths) and abs(start) <= GREATEST and abs(step) <= GREATEST, -1)
        cells = [start + step * number for number in range(product(lengths))]
        check(all(abs(cell) <= GREATEST for cell in cells), -6)
        return self.keep(k, lengths, cells)

    def call_drop(self, k):
        self.target(k)
        self.slots.pop(k, None)
        return []

    def call_shape(self, i):
        return list(self.source(i)[0])

    def call_cells(self, i):
        lengths, table = self.source(i)
        return [table[place] for place in places(lengths)]

    def call_at(self, i, place):
        table = self.source(i)[1]
        check(tuple(place) in table, -4)
        return [table[tuple(place)]]

    def call_set(self, i, v, place):
        lengths, table = self.source(i)
        check(abs(v) <= GREATEST, -1)
        check(tuple(place) in table, -4)
        table[tuple(place)] = v
        return list(lengths)

    def call_spread(self, k, i, lengths):
        self.target(k)
        old, table = self.source(i)
        check(is_shape(lengths), -1)
        check(len(old) <= len(lengths), -3)
        check(all(a in (1, b) for a, b in zip(old[::-1], lengths[::-1])), -3)
        cells = []
        for place in places(lengths):
            last = place[len(lengths) - len(old):]
            cells.append(table[tuple(number % length for number, length in zip(last, old))])
        return self.keep(k, lengths, cells)

    def section(self, lengths, cuts, too_many):
        """The places of a section, in its order, and its lengths."""
        check(len(cuts) == 3 * len(lengths), -1)
        counts = cuts[2::3]
        check(all(1 <= count <= 1024 for count in counts), -1)
        check(not too_many or product(counts) <= 1024, -6)
        walks = [[cuts[3 * axis] + cuts[3 * axis + 1] * n for n in range(counts[axis])] for axis in range(len(counts))]
        check(all(0 <= at < length for walk, length in zip(walks, lengths) for at in walk), -4)
        return itertools.product(*walks), counts

    def call_cut(self, k, i, cuts):
        self.target(k)
        lengths, table = self.source(i)
        found, counts = self.section(lengths, cuts, True)
        return self.keep(k, counts, [table[place] for place in found])

    def call_put(self, i, j, cuts):
        lengths, table = self.source(i)
        part = self.source(j)
        found, counts = self.section(lengths, cuts, False)
        check(part[0] == counts, -3)
        table.update(zip(found, self.call_cells(j)))
        return list(lengths)

    def call_turn(self, k, i, axes):
        self.target(k)
        old, table = self.source(i)
        check(len(axes) == len(old) and set(axes) == set(range(len(old))), -1)
        lengths = [old[axis] for axis in axes]
        turned = {tuple(place[axis] for axis in axes): cell for place, cell in table.items()}
        return self.keep(k, lengths, [turned[place] for place in places(lengths)])

    def call_join(self, k, axis, i, j):
        self.target(k)
        first, table = self.source(i)
        second, behind = self.source(j)
        check(axis < len(first), -1)
        check(len(first) == len(second), -3)
        check(all(n == axis or first[n] == second[n] for n in range(len(first))), -3)
        lengths = list(first)
        lengths[axis] += second[axis]
        check(product(lengths) <= 1024, -6)
        joined = dict(table)
        for place, cell in behind.items():
            joined[place[:axis] + (place[axis] + first[axis],) + place[axis + 1:]] = cell
        return self.keep(k, lengths, [joined[place] for place in places(lengths)])
