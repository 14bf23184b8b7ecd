"""T1 to T7 over many small arrays of each rank, and all calls against a second way of answering them."""

import itertools
import random
import unittest

from arraydesk.shapes import is_place, is_shape, number_of, place_of
from helper import GREATEST, MOST_CALLS, Model, as_bytes, ask, dumped, places, product, small_shapes, text_of


def in_portions(setup, calls):
    """The answers to calls that are too many for one list; setup goes before each portion."""
    room = MOST_CALLS - len(setup)
    found = []
    for start in range(0, len(calls), room):
        portion = calls[start:start + room]
        found += ask(list(setup) + portion)[len(setup):]
    return found


class PlacesAndNumbers(unittest.TestCase):
    def test_t1_at_tells_the_number_of_each_place(self):
        for lengths in small_shapes(3):
            calls = [("at", 0, list(place)) for place in places(lengths)]
            found = in_portions([("count", 0, 0, 1, lengths)], calls)
            self.assertEqual(found, [[0, number] for number in range(product(lengths))], lengths)

    def test_t1_set_at_each_place_shows_at_its_number(self):
        for lengths in small_shapes(2):
            calls = []
            for number, place in enumerate(places(lengths)):
                calls.append(("set", 0, 100 + number, list(place)))
            found = ask([("fill", 0, -1, lengths)] + calls + [("cells", 0)])
            self.assertEqual(found[-1], [0] + [100 + number for number in range(product(lengths))], lengths)

    def test_t1_there_and_back(self):
        for lengths in small_shapes(4) + [[1024], [32, 32], [4, 4, 8, 8], [1, 1024], [2, 512]]:
            self.assertTrue(is_shape(lengths))
            for number, place in enumerate(places(lengths)):
                self.assertEqual(number_of(lengths, list(place)), number)
                self.assertEqual(place_of(lengths, number), list(place))
                self.assertTrue(is_place(lengths, list(place)))

    def test_no_places(self):
        for place in ([-1, 0], [0, -1], [2, 0], [0, 3], [0], [0, 0, 0], []):
            self.assertFalse(is_place([2, 3], place))


def shapes_that_spread(lengths):
    """All shapes that spread to the given one: axes left out in front, or of length 1."""
    found = []
    for ahead in range(len(lengths) + 1):
        for ones in itertools.product((False, True), repeat=len(lengths) - ahead):
            small = [1 if one else length for one, length in zip(ones, lengths[ahead:])]
            if small not in found:
                found.append(small)
    return found


class Spreading(unittest.TestCase):
    def test_t2_each_place_has_the_cell_that_the_places_tell(self):
        for great in small_shapes(3):
            for small in shapes_that_spread(great):
                found = ask([("count", 0, 1, 1, small), ("spread", 1, 0, great), ("cells", 1), ("cells", 0)])
                expected = []
                for place in places(great):
                    last = place[len(great) - len(small):]
                    own = [0 if length == 1 else number for number, length in zip(last, small)]
                    expected.append(1 + places(small).index(tuple(own)))
                self.assertEqual(found[1], [0] + great, (small, great))
                self.assertEqual(found[2], [0] + expected, (small, great))
                self.assertEqual(found[3], [0] + list(range(1, 1 + product(small))))

    def test_t2_nothing_else_spreads(self):
        shapes = small_shapes(2) + [[3], [3, 2], [2, 3], [3, 1, 2], [1, 3, 1, 2]]
        for great in shapes:
            fitting = shapes_that_spread(great)
            calls = []
            for small in shapes:
                calls += [("fill", 0, 1, small), ("spread", 1, 0, great)]
            found = in_portions([], calls)[1::2]
            self.assertEqual(found, [[0] + great if small in fitting else [-3] for small in shapes], great)


def met(first, second):
    """The lengths of least cells to which both shapes spread, or None."""
    rank = max(len(first), len(second))
    for lengths in itertools.product(range(1, 4), repeat=rank):
        fitting = shapes_that_spread(list(lengths))
        if first in fitting and second in fitting:
            return list(lengths)
    return None


class Meeting(unittest.TestCase):
    def test_t2_what_meets_meets_either_way_round(self):
        shapes = small_shapes(2) + [[3], [3, 1], [1, 3], [3, 2], [2, 3], [3, 1, 2], [1, 3, 1, 2]]
        for first in shapes:
            for second in shapes:
                found = ask([
                    ("count", 0, 1, 1, first), ("count", 1, 100, 100, second), ("both", 2, 0, 0, 1),
                    ("both", 3, 0, 1, 0), ("cells", 2), ("cells", 3),
                ])
                self.assertEqual(found[2], found[3], (first, second))
                self.assertEqual(found[4], found[5], (first, second))
                lengths = met(first, second)
                self.assertEqual(found[2], [-3] if lengths is None else [0] + lengths, (first, second))
                if lengths is not None:
                    spread = ask([
                        ("count", 0, 1, 1, first), ("count", 1, 100, 100, second), ("spread", 2, 0, lengths),
                        ("spread", 3, 1, lengths), ("cells", 2), ("cells", 3),
                    ])
                    sums = [x + y for x, y in zip(spread[4][1:], spread[5][1:])]
                    self.assertEqual(found[4], [0] + sums, (first, second))


def whole_cuts(lengths):
    return [number for length in lengths for number in (0, 1, length)]


def some_cuts(draw, lengths, twice):
    cuts = []
    for length in lengths:
        start = draw.randrange(length)
        step = draw.choice([-2, -1, 1, 2] + [0] * twice)
        most = 3 if step == 0 else 1 + ((length - 1 - start) // step if step > 0 else start // -step)
        cuts += [start, step, draw.randint(1, most)]
    return cuts


class PuttingAndCutting(unittest.TestCase):
    def test_t3_what_is_put_is_cut_again_and_nothing_else_changes(self):
        draw = random.Random(3)
        for lengths in small_shapes(3):
            for turn in range(4):
                cuts = some_cuts(draw, lengths, 0)
                counts = cuts[2::3]
                found = ask([
                    ("count", 0, 0, 1, lengths), ("count", 1, 1000, 1, counts), ("cut", 2, 0, cuts), ("cells", 2),
                    ("put", 0, 1, cuts), ("cut", 3, 0, cuts), ("shape", 3), ("cells", 3), ("cells", 0), ("cells", 1),
                ])
                section = found[3][1:]
                put = list(range(1000, 1000 + product(counts)))
                self.assertEqual(found[4], [0] + lengths)
                self.assertEqual(found[6], [0] + counts)
                self.assertEqual(found[7], [0] + put)
                self.assertEqual(found[9], [0] + put)
                for number, cell in enumerate(found[8][1:]):
                    if number in section:
                        self.assertEqual(cell, 1000 + section.index(number))
                    else:
                        self.assertEqual(cell, number)

    def test_t3_what_is_cut_is_put_back(self):
        draw = random.Random(4)
        for lengths in small_shapes(3):
            cuts = some_cuts(draw, lengths, 2)
            found = ask([("count", 0, 5, 3, lengths), ("cells", 0), ("cut", 1, 0, cuts), ("put", 0, 1, cuts),
                         ("cells", 0), ("cut", 2, 0, whole_cuts(lengths)), ("cells", 2)])
            self.assertEqual(found[1], found[4])
            self.assertEqual(found[1], found[6])


class TurningAndJoining(unittest.TestCase):
    def test_t4_turned_and_turned_back(self):
        for lengths in small_shapes(3):
            for axes in itertools.permutations(range(len(lengths))):
                back = [axes.index(axis) for axis in range(len(axes))]
                found = ask([("count", 0, 1, 1, lengths), ("turn", 1, 0, list(axes)), ("turn", 2, 1, back),
                             ("shape", 2), ("cells", 2), ("cells", 1)])
                turned = [lengths[axis] for axis in axes]
                self.assertEqual(found[1], [0] + turned)
                self.assertEqual(found[3], [0] + lengths)
                self.assertEqual(found[4], [0] + list(range(1, 1 + product(lengths))))
                for place, cell in zip(places(turned), found[5][1:]):
                    before = tuple(place[axes.index(axis)] for axis in range(len(axes)))
                    self.assertEqual(cell, 1 + places(lengths).index(before))

    def test_t4_joined_parts_are_cut_out_again(self):
        for lengths in small_shapes(3):
            for axis in range(len(lengths)):
                for behind in (1, 2, 4):
                    second = lengths[:axis] + [behind] + lengths[axis + 1:]
                    joined = lengths[:axis] + [lengths[axis] + behind] + lengths[axis + 1:]
                    later = whole_cuts(second)
                    later[3 * axis] = lengths[axis]
                    found = ask([("count", 0, 1, 1, lengths), ("count", 1, -1, -1, second), ("join", 2, axis, 0, 1),
                                 ("cut", 3, 2, whole_cuts(lengths)), ("cut", 4, 2, later), ("shape", 3), ("cells", 3),
                                 ("shape", 4), ("cells", 4)])
                    self.assertEqual(found[2], [0] + joined)
                    self.assertEqual(found[5], [0] + lengths)
                    self.assertEqual(found[6], [0] + list(range(1, 1 + product(lengths))))
                    self.assertEqual(found[7], [0] + second)
                    self.assertEqual(found[8], [0] + list(range(-1, -1 - product(second), -1)))


class Rolling(unittest.TestCase):
    def test_t4_rolled_and_rolled_back(self):
        for lengths in small_shapes(3):
            for axis in range(len(lengths)):
                for by in (-10 ** 12, -4, -1, 0, 1, 2, 3, 7):
                    found = ask([("count", 0, 0, 1, lengths), ("roll", 1, axis, by, 0), ("roll", 2, axis, -by, 1),
                                 ("same", 0, 2), ("cells", 1), ("cells", 0)])
                    self.assertEqual(found[1:4], [[0] + lengths, [0] + lengths, [0, 1]])
                    self.assertEqual(found[5], [0] + list(range(product(lengths))))
                    for place in places(lengths):
                        to = list(place)
                        to[axis] = (to[axis] + by) % lengths[axis]
                        self.assertEqual(found[4][1 + places(lengths).index(tuple(to))], places(lengths).index(place))

    def test_repeated_is_joined_again_and_again(self):
        for lengths in small_shapes(2) + [[3], [3, 2], [2, 3, 1]]:
            for axis in range(len(lengths)):
                found = ask([
                    ("count", 0, 5, -3, lengths), ("repeat", 1, axis, 3, 0), ("join", 2, axis, 0, 0),
                    ("join", 2, axis, 2, 0), ("same", 1, 2), ("repeat", 3, axis, 1, 0), ("same", 0, 3),
                ])
                self.assertEqual(found[1], found[3])
                self.assertEqual([found[4], found[6]], [[0, 1], [0, 1]])


def rows_by_cuts(lengths, axis):
    """For each row of an axis: its other numbers, and the cuts that leave just this row."""
    found = []
    for others in places(lengths[:axis] + lengths[axis + 1:]):
        starts = others[:axis] + (0,) + others[axis:]
        found.append((others, [number for n, start in enumerate(starts)
                               for number in (start, 1, lengths[axis] if n == axis else 1)]))
    return found


class RowByRow(unittest.TestCase):
    """T5: each row, cut out, is folded, scanned and ordered as it is among the others."""

    def setups(self, seed):
        draw = random.Random(seed)
        for lengths in small_shapes(3):
            if lengths and product(lengths) <= 36:
                cells = [draw.randint(-4, 4) for number in range(product(lengths))]
                for axis in range(len(lengths)):
                    yield lengths, axis, ("make", 0, lengths, cells)

    def check_rows(self, seed, calls_of, of_fold):
        """calls_of tells, of a source, a target and the axis, the calls that are asked of both."""
        for lengths, axis, make in self.setups(seed):
            row_lengths = [length if n == axis else 1 for n, length in enumerate(lengths)]
            size = len(calls_of(0, 1, axis))
            for turn in range(size):
                setup = [make, calls_of(0, 1, axis)[turn]]
                told = ask(setup + [("shape", 1), ("cells", 1)])
                others = lengths[:axis] + lengths[axis + 1:]
                self.assertEqual(told[2], [0] + (others if of_fold else lengths))
                for other, cuts in rows_by_cuts(lengths, axis):
                    alone = ask([make, ("cut", 2, 0, cuts), calls_of(2, 3, axis)[turn], ("shape", 3), ("cells", 3)])
                    self.assertEqual(alone[1], [0] + row_lengths)
                    if of_fold:
                        among = [told[3][1 + places(others).index(other)]]
                    else:
                        among = ask(setup + [("cut", 2, 1, cuts), ("cells", 2)])[-1][1:]
                    self.assertEqual(alone[4][1:], among, (lengths, axis))

    def test_t5_folded(self):
        self.check_rows(51, lambda i, k, axis: [("fold", k, f, axis, i) for f in range(4)], True)

    def test_t5_scanned(self):
        self.check_rows(52, lambda i, k, axis: [("scan", k, f, axis, i) for f in range(4)], False)

    def test_t5_ordered(self):
        self.check_rows(53, lambda i, k, axis: [("order", k, axis, i)], False)

    def test_t5_the_last_of_a_scan_is_the_fold(self):
        for lengths, axis, make in self.setups(54):
            last = whole_cuts(lengths)
            last[3 * axis:3 * axis + 3] = [lengths[axis] - 1, 1, 1]
            for f in range(4):
                found = ask([make, ("scan", 1, f, axis, 0), ("cut", 2, 1, last), ("cells", 2), ("fold", 3, f, axis, 0),
                             ("cells", 3)])
                self.assertEqual(found[3], found[5], (lengths, axis, f))

    def test_t5_what_is_taken_in_its_order_is_in_order(self):
        for lengths, axis, make in self.setups(55):
            for other, cuts in rows_by_cuts(lengths, axis):
                found = ask([make, ("cut", 1, 0, cuts), ("cells", 1), ("order", 2, axis, 1), ("cells", 2)])
                row = found[2][1:]
                self.assertEqual(found[4][1:], sorted(range(len(row)), key=lambda number: (row[number], number)))


class Texts(unittest.TestCase):
    def test_t6_told_texts_are_read_back(self):
        draw = random.Random(6)
        for lengths in small_shapes(3) + [[11], [2, 10], [100], [1024], [32, 32], [4, 4, 8, 8], [10, 1, 12]]:
            most = 10 ** draw.choice([0, 1, 2, 5])
            if product(lengths) < 200:
                most = GREATEST
            cells = [draw.choice([draw.randint(-most, most), 0, most, -most]) for number in range(product(lengths))]
            make = ("make", 0, lengths, cells)
            told = ask([make, ("text", 0)])[1]
            self.assertEqual(told, [0] + as_bytes(text_of(lengths, cells)))
            if len(told) <= 8193:
                found = ask([make, ("read", 1, told[1:]), ("same", 0, 1), ("cells", 1), ("text", 1)])
                self.assertEqual(found[1:], [[0] + lengths, [0, 1], [0] + cells, told])
            else:
                self.assertEqual(ask([("read", 1, told[1:])]), [[-1]])

    def test_t6_other_arrays_have_other_texts(self):
        told = {}
        for lengths in small_shapes(2):
            for start in (-1, 0, 1):
                for step in (-1, 0, 1):
                    found = ask([("count", 0, start, step, lengths), ("cells", 0), ("text", 0)])
                    array = (tuple(lengths), tuple(found[1]))
                    self.assertEqual(told.setdefault(tuple(found[2]), array), array)


class Drawn:
    """Calls drawn by lot, mostly such as may be, with now and then a number that may not."""

    def __init__(self, seed):
        self.draw = random.Random(seed)
        self.model = Model()

    def slot(self):
        if self.draw.random() < 0.04:
            return self.draw.choice([8, 9, 2 ** 32 - 1])
        return self.draw.randrange(8)

    def source(self):
        if self.model.slots and self.draw.random() < 0.9:
            return self.draw.choice(sorted(self.model.slots))
        return self.slot()

    def shape_of(self, i):
        return list(self.model.slots[i][0]) if i in self.model.slots else []

    def lengths(self):
        chance = self.draw.random()
        if chance < 0.06:
            return self.draw.choice([[0], [1] * 5, [2, 0], [1025], [40, 40], [2 ** 32 - 1] * 4])
        if chance < 0.1:
            return self.draw.choice([[1024], [32, 32], [4, 4, 8, 8], [64, 1, 16]])
        return [self.draw.randint(1, 3) for axis in range(self.draw.randrange(5))]

    def cell(self):
        if self.draw.random() < 0.05:
            bound = self.draw.choice([-1, 1]) * GREATEST
            return bound + self.draw.choice([-1, 0, 1])
        return self.draw.randint(-50, 50)

    def place(self, i):
        place = [self.draw.randrange(length) for length in self.shape_of(i)]
        if self.draw.random() < 0.15:
            place.append(0)
        if place and self.draw.random() < 0.15:
            place[self.draw.randrange(len(place))] += 1
        return place

    def cuts(self, i):
        cuts = some_cuts(self.draw, self.shape_of(i), 2)
        if self.draw.random() < 0.08:
            for axis in range(len(self.shape_of(i))):
                cuts[3 * axis + 1:3 * axis + 3] = [0, self.draw.choice([1, 8, 32, 512, 1024])]
        if cuts and self.draw.random() < 0.25:
            cuts[self.draw.randrange(len(cuts))] += self.draw.choice([-3, -1, 1, 3, 1024, 2 ** 40])
        if self.draw.random() < 0.04:
            cuts.append(1)
        return cuts

    def make(self):
        lengths = self.lengths()
        size = min(product(lengths), 1024) + (self.draw.random() < 0.05)
        return ("make", self.slot(), lengths, [self.cell() for number in range(size)])

    def spread(self):
        i = self.source()
        lengths = [length if length > 1 else self.draw.randint(1, 3) for length in self.shape_of(i)]
        if self.draw.random() < 0.3:
            lengths = [self.draw.randint(0, 2)] + lengths
        if self.draw.random() < 0.15:
            lengths = self.lengths()
        return ("spread", self.slot(), i, lengths)

    def put(self):
        i = self.source()
        cuts = self.cuts(i)
        fitting = [j for j in sorted(self.model.slots) if self.shape_of(j) == cuts[2::3]]
        j = self.draw.choice(fitting) if fitting and self.draw.random() < 0.8 else self.source()
        return ("put", i, j, cuts)

    def turn(self):
        i = self.source()
        axes = list(range(len(self.shape_of(i))))
        self.draw.shuffle(axes)
        if axes and self.draw.random() < 0.15:
            axes[0] = self.draw.randrange(5)
        return ("turn", self.slot(), i, axes)

    def join(self):
        i = self.source()
        axis = self.draw.randrange(1 + len(self.shape_of(i)))
        j = i if self.draw.random() < 0.4 else self.source()
        return ("join", self.slot(), axis, i, j)

    def axis(self, i):
        rank = len(self.shape_of(i))
        if rank == 0 or self.draw.random() < 0.05:
            return self.draw.choice([rank, rank + 1, 2 ** 32 - 1])
        return self.draw.randrange(rank)

    def choice_below(self, bound):
        """A number below the bound, seldom another."""
        if self.draw.random() < 0.05:
            return self.draw.choice([bound, bound + 1, 2 ** 32 - 1])
        return self.draw.randrange(bound)

    def like(self, i):
        """A slot of the same lengths, mostly."""
        fitting = [j for j in sorted(self.model.slots) if self.shape_of(j) == self.shape_of(i)]
        return self.draw.choice(fitting) if fitting and self.draw.random() < 0.8 else self.source()

    def roll(self):
        i = self.source()
        return ("roll", self.slot(), self.axis(i), self.cell(), i)

    def repeat(self):
        i = self.source()
        times = self.draw.choice([0, 1, 2, 2, 3, 3, 20, 300, 1024, 1025])
        return ("repeat", self.slot(), self.axis(i), times, i)

    def both(self):
        i = self.source()
        j = self.source()
        if self.draw.random() < 0.1:
            return [("fill", i, 2, [200, 1]), ("fill", j, 3, [6]), ("both", self.slot(), self.choice_below(9), i, j)]
        return ("both", self.slot(), self.choice_below(9), i, j)

    def fold(self):
        i = self.source()
        return (self.draw.choice(["fold", "scan"]), self.slot(), self.choice_below(4), self.axis(i), i)

    def order(self):
        i = self.source()
        return ("order", self.slot(), self.axis(i), i)

    def take(self):
        i = self.source()
        axis = self.axis(i)
        j = self.source()
        if self.draw.random() < 0.2 or axis >= len(self.shape_of(i)):
            return ("take", self.slot(), axis, i, j)
        length = self.shape_of(i)[axis]
        size = self.draw.choice([1, 2, 3, 4, 5, 400])
        numbers = [self.draw.randrange(length) for number in range(size)]
        if self.draw.random() < 0.1:
            numbers[-1] = self.draw.choice([-1, length, GREATEST])
        return [("make", j, [size], numbers), ("take", self.slot(), axis, i, j)]

    def pack(self):
        i = self.source()
        if self.draw.random() < 0.15:
            j = self.slot()
            return [("fill", j, 0, self.shape_of(i)), ("pack", self.slot(), i, j)]
        return ("pack", self.slot(), i, self.like(i))

    def land(self):
        i = self.source()
        mode = self.choice_below(4)
        j = self.source()
        if self.draw.random() < 0.1:
            return ("land", i, mode, j, self.like(j))
        cells = product(self.shape_of(i))
        l = self.source()
        lengths = self.shape_of(l) if self.draw.random() < 0.9 else [2]
        numbers = [self.draw.randrange(cells) for number in range(product(lengths))]
        if self.draw.random() < 0.1:
            numbers[-1] = self.draw.choice([-1, cells, GREATEST])
        return [("make", j, lengths, numbers), ("land", i, mode, j, l)]

    def times(self):
        i = self.source()
        j = self.source()
        if self.draw.random() < 0.1:
            return [("fill", i, 1, [40, 1]), ("fill", j, 1, [1, 30]), ("times", self.slot(), i, j)]
        if self.draw.random() < 0.3:
            return ("times", self.slot(), i, j)
        shared = self.draw.randint(1, 3)
        first = [self.draw.randint(1, 3), shared]
        second = [shared, self.draw.randint(1, 3)]
        return [("make", i, first, [self.cell() for number in range(product(first))]),
                ("make", j, second, [self.cell() for number in range(product(second))]), ("times", self.slot(), i, j)]

    def same(self):
        i = self.source()
        return ("same", i, self.like(i))

    def read(self):
        i = self.source()
        lengths = self.shape_of(i)
        text = as_bytes(text_of(lengths, self.model.call_cells(i) if i in self.model.slots else [0]))[:500]
        if self.draw.random() < 0.5:
            at = self.draw.randrange(len(text))
            # One byte or none goes, one byte or none comes.
            coming = [self.draw.choice(list(b"[],- \n0123456789x"))] * self.draw.randrange(2)
            text[at:at + self.draw.randrange(2)] = coming
        return ("read", self.slot(), text)

    def call(self):
        """A call, or several of which the last one needs the others."""
        name = self.draw.choice(["make", "fill", "count", "drop", "shape", "cells", "at", "set", "spread", "cut",
                                 "put", "turn", "join", "cut", "put", "spread", "cells", "roll", "repeat", "both",
                                 "both", "fold", "fold", "order", "take", "pack", "land", "land", "times", "same",
                                 "text", "read"])
        if name == "fill":
            return (name, self.slot(), self.cell(), self.lengths())
        if name == "count":
            return (name, self.slot(), self.cell(), self.cell(), self.lengths())
        if name == "drop":
            return (name, self.slot())
        if name in ("shape", "cells", "text"):
            return (name, self.source())
        i = self.source()
        if name == "at":
            return (name, i, self.place(i))
        if name == "set":
            return (name, i, self.cell(), self.place(i))
        if name == "cut":
            return (name, self.slot(), i, self.cuts(i))
        return getattr(self, name)()

    def calls(self, size):
        """As many calls or up to two more, and what the model answers to each."""
        calls = []
        expected = []
        while len(calls) < size:
            call = self.call()
            for one in call if isinstance(call, list) else [call]:
                calls.append(one)
                expected.append(self.model.answer(*one))
        return calls, expected


class DrawnByLot(unittest.TestCase):
    def test_as_the_model_answers(self):
        seen = {}
        for seed in range(1500):
            drawn = Drawn(seed)
            calls, expected = drawn.calls(MOST_CALLS - 10)
            for slot in range(8):
                calls.append(("cells", slot))
                expected.append(drawn.model.answer("cells", slot))
            self.assertEqual(ask(calls), expected, (seed, calls))
            for call, answer in zip(calls, expected):
                seen[(call[0], min(answer[0], 0))] = True
        # The draw must reach each refusal of each call, or it shows less than it seems to.
        for name, numbers in (
            ("make", (0, -1)), ("fill", (0, -1)), ("count", (0, -1, -6)), ("drop", (0, -1)), ("shape", (0, -1, -2)),
            ("cells", (0, -1, -2)), ("at", (0, -1, -2, -4)), ("set", (0, -1, -2, -4)), ("spread", (0, -1, -2, -3)),
            ("cut", (0, -1, -2, -4, -6)), ("put", (0, -1, -2, -3, -4)), ("turn", (0, -1, -2)),
            ("join", (0, -1, -2, -3, -6)), ("roll", (0, -1, -2)), ("repeat", (0, -1, -2, -6)),
            ("both", (0, -1, -2, -3, -6)), ("fold", (0, -1, -2, -6)), ("scan", (0, -1, -2, -6)), ("order", (0, -1, -2)),
            ("take", (0, -1, -2, -3, -4, -6)), ("pack", (0, -1, -2, -3, -5)), ("land", (0, -1, -2, -3, -4, -6)),
            ("times", (0, -1, -2, -3, -6)), ("same", (0, -1, -2)), ("text", (0, -1, -2)), ("read", (0, -1, -8)),
        ):
            self.assertEqual(sorted(n for called, n in seen if called == name), sorted(numbers), name)

    def test_t7_a_refusal_changes_nothing_and_a_call_one_slot_at_most(self):
        for seed in range(5000, 5200):
            calls, expected = Drawn(seed).calls(12)
            before = dumped([])
            for size, answer in enumerate(expected, start=1):
                after = dumped(calls[:size])
                changed = [slot for slot in range(8) if before[slot] != after[slot]]
                self.assertLessEqual(len(changed), 0 if answer[0] < 0 else 1, calls[:size])
                if calls[size - 1][0] in ("shape", "cells", "at", "same", "text"):
                    self.assertEqual(changed, [], calls[:size])
                elif changed:
                    self.assertEqual(changed, [calls[size - 1][1]], calls[:size])
                before = after


if __name__ == "__main__":
    unittest.main()
