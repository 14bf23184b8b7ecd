"""text and read."""

import itertools
import unittest

from helper import DeskCase, GREATEST, MOST_CALLS, WORD_MOST, as_bytes, ask, fault_of, text_of, told_by

SETUP = [
    ("make", 0, [2, 3], [1, -2, 0, 10, -100, 999]),
    ("make", 1, [], [-7]),
    ("make", 2, [3], [5, 6, 7]),
    ("make", 3, [1], [0]),
]
SIGNS = "[],- \n\r\t0159:/+\0\x7f\x80\xb2\xff"


def one_byte_off(text, others):
    """The text with one byte changed, left out or put in, and cut off at each place."""
    found = []
    for at in range(len(text) + 1):
        found.append(text[:at])
        found.append(text[:at] + text[at + 1:])
        for other in others:
            found.append(text[:at] + other + text[at + 1:])
            found.append(text[:at] + other + text[at:])
    return sorted(set(found))


class Text(DeskCase):
    def test_ordinary(self):
        self.told(as_bytes("[2,3]\n1 -2 0\n10 -100 999\n"), SETUP, "text", 0)
        self.told(as_bytes("[3]\n5 6 7\n"), SETUP, "text", 2)
        self.told(as_bytes("[1]\n0\n"), SETUP, "text", 3)

    def test_its_bytes_as_they_stand(self):
        self.assertEqual(self.answer(SETUP, "text", 0), [
            0, 91, 50, 44, 51, 93, 10, 49, 32, 45, 50, 32, 48, 10, 49, 48, 32, 45, 49, 48, 48, 32, 57, 57, 57, 10])

    def test_rank_0(self):
        self.told(as_bytes("[]\n-7\n"), SETUP, "text", 1)

    def test_rank_3_and_4(self):
        setup = [("count", 0, -2, 1, [2, 2, 2]), ("count", 1, 8, 1, [2, 1, 3, 1]), ("count", 2, 0, -1, [1, 1, 1, 4])]
        self.told(as_bytes("[2,2,2]\n-2 -1\n0 1\n2 3\n4 5\n"), setup, "text", 0)
        self.told(as_bytes("[2,1,3,1]\n8\n9\n10\n11\n12\n13\n"), setup, "text", 1)
        self.told(as_bytes("[1,1,1,4]\n0 -1 -2 -3\n"), setup, "text", 2)

    def test_at_the_bounds(self):
        setup = [("make", 0, [2], [GREATEST, -GREATEST]), ("fill", 1, -GREATEST, [1024])]
        self.told(as_bytes("[2]\n1000000000000000 -1000000000000000\n"), setup, "text", 0)
        # Longer than what may be read again, but told all the same.
        self.told(as_bytes("[1024]\n" + " ".join(["-1000000000000000"] * 1024) + "\n"), setup, "text", 1)

    def test_refusals_in_order(self):
        self.refused(-1, SETUP, "text", 8)
        self.refused(-1, SETUP, "text", WORD_MOST)
        self.refused(-2, SETUP, "text", 7)


class Read(DeskCase):
    def test_ordinary(self):
        for k, lengths, cells, text in (
            (6, [2, 3], [1, -2, 0, 10, -100, 999], "[2,3]\n1 -2 0\n10 -100 999\n"),
            (0, [3], [5, 6, 7], "[3]\n5 6 7\n"),
            (1, [1], [0], "[1]\n0\n"),
            (7, [], [-7], "[]\n-7\n"),
            (6, [2, 2, 1], [1, 2, 3, 4], "[2,2,1]\n1\n2\n3\n4\n"),
            (6, [2, 1, 1, 2], [1, 2, 3, 4], "[2,1,1,2]\n1 2\n3 4\n"),
            (6, [12], [0] * 12, "[12]\n0 0 0 0 0 0 0 0 0 0 0 0\n"),
        ):
            self.made(k, lengths, cells, SETUP, "read", k, as_bytes(text))

    def test_shapes_of_the_most_cells(self):
        cells = [number % 10 for number in range(1024)]
        for lengths in ([1024], [1, 1024], [1024, 1], [32, 32], [1, 1, 1, 1024], [1024, 1, 1, 1], [4, 4, 8, 8]):
            self.made(6, lengths, cells, SETUP, "read", 6, as_bytes(text_of(lengths, cells)))

    def test_cells_at_the_bounds(self):
        for text, cells in (
            ("[2]\n1000000000000000 -1000000000000000\n", [GREATEST, -GREATEST]),
            ("[2]\n999999999999999 -999999999999999\n", [GREATEST - 1, 1 - GREATEST]),
        ):
            self.made(6, [2], cells, SETUP, "read", 6, as_bytes(text))

    def test_refusals_in_order(self):
        text = as_bytes("[3]\n5 6 7\n")
        self.refused(-1, SETUP, "read", 8, text)
        self.refused(-1, SETUP, "read", WORD_MOST, text)
        self.refused(-1, SETUP, "read", 8, [])
        self.refused(-1, SETUP, "read", 8, [0] * 8193)


class MostBytes(DeskCase):
    def cells_of_text_size(self, size):
        """1,024 cells with a text of just so many bytes, near to 8,192."""
        cells = [1000000 + number for number in range(1022)] + [123, 1]
        while len(text_of([1024], cells)) < size:
            cells[-1] *= 10
        return cells

    def test_8192_bytes_are_read(self):
        for size in (8191, 8192):
            cells = self.cells_of_text_size(size)
            text = text_of([1024], cells)
            self.assertEqual(len(text), size)
            self.made(0, [1024], cells, SETUP, "read", 0, as_bytes(text))

    def test_more_are_not(self):
        text = text_of([1024], self.cells_of_text_size(8193))
        self.assertEqual(len(text), 8193)
        self.refused(-1, SETUP, "read", 0, as_bytes(text))
        # Whether it is some text or none.
        self.refused(-1, SETUP, "read", 0, [0] * 8193)
        self.refused(-1, SETUP, "read", 0, [91] * 15900)
        self.refused(-1, SETUP, "read", 0, as_bytes("[1]\n1\n" + " " * 8187))

    def test_a_fault_within_8192_bytes(self):
        self.faulty(0, SETUP, 0, "\0" * 8192)
        self.faulty(6, SETUP, 0, "[1]\n1\n" + " " * 8186)
        text = text_of([1024], [-GREATEST] * 1024)
        self.faulty(8192, SETUP, 0, text[:8192])
        self.faulty(8191, SETUP, 0, text[:8191] + "x")
        text = text_of([1024], self.cells_of_text_size(8192))
        self.faulty(8191, SETUP, 0, text[:-1])
        self.faulty(8191, SETUP, 0, text[:-1] + " ")


class Fault(DeskCase):
    def faults(self, *cases):
        for fault, text in cases:
            self.faulty(fault, SETUP, 0, text)
            self.assertEqual(fault_of(text), fault, text)

    def test_of_brackets_and_commas(self):
        self.faults(
            (0, ""), (0, "]"), (0, "2]\n"), (0, " [1]\n1\n"), (0, "\n"), (0, "(1)\n1\n"),
            (1, "["), (1, "[,1]\n"), (1, "[ 1]\n1\n"), (1, "[\n1\n"), (1, "[["), (1, "[/"), (1, "[:"), (1, "[\xb2]\n"),
            (2, "[]"), (2, "[] \n1\n"), (2, "[]1\n"), (2, "[2"), (2, "[2 ]\n1 2\n"), (2, "[2\n1 2\n"), (2, "[2;1]\n"),
            (3, "[2,"), (3, "[2,]\n1 2\n"), (3, "[2,,1]\n"), (3, "[2, 1]\n1\n1\n"),
            (3, "[2]"), (3, "[2] \n1 2\n"), (3, "[2]1 2\n"), (3, "[2]\r\n1 2\n"), (3, "[2]]\n1 2\n"),
        )

    def test_of_noughts_in_lengths(self):
        self.faults((1, "[0]\n"), (1, "[01]\n1\n"), (1, "[-1]\n1\n"), (1, "[+1]\n1\n"), (3, "[2,0]\n"), (3, "[2,02]\n"))

    def test_of_five_lengths(self):
        self.faults(
            (8, "[1,1,1,1,1]\n1\n"), (8, "[1,1,1,1,"), (8, "[2,2,2,2"), (9, "[2,2,2,2]"), (10, "[2,2,2,2]\n"),
        )

    def test_of_more_cells_than_may_be(self):
        self.faults(
            (4, "[1025]\n"), (4, "[1030]\n"), (4, "[2000]\n"), (4, "[9999]\n"), (5, "[10240]\n"),
            (4, "[" + "9" * 5000 + "]\n"), (5, "[512,3]\n"), (5, "[513,2]\n"), (5, "[600,2]\n"), (7, "[512,1,3]\n"),
            (6, "[512,10]\n"), (5, "[32,33]\n"), (6, "[32,320]\n"), (5, "[33,32]\n"), (9, "[32,32,1,2]\n"),
            (6, "[1024,2]\n"), (7, "[1024,10]\n"), (9, "[2,2,2,129]\n"), (7, "[4,4,8,9]\n"),
            # The greatest that may be: only the cells are missing.
            (7, "[1024]\n"), (8, "[512,2]\n"), (8, "[33,31]\n"), (12, "[2,2,2,128]\n"),
        )

    def test_of_what_stands_between_cells(self):
        self.faults(
            (4, "[3]\n"), (4, "[3]\n\n"), (4, "[3]\n 5 6 7\n"), (5, "[3]\n5"), (5, "[3]\n5\n6 7\n"), (6, "[3]\n5 "),
            (6, "[3]\n5  6 7\n"), (7, "[3]\n5 6\n"), (9, "[3]\n5 6 7"), (9, "[3]\n5 6 7 \n"), (9, "[3]\n5 6 7 8\n"),
            (9, "[3]\n5 6 7\r\n"), (5, "[3]\n5,6,7\n"), (5, "[3]\n5\t6 7\n"), (8, "[3]\n5 6 x\n"),
            (9, "[2,2]\n1 2 3 4\n"), (7, "[2,2]\n1\n2\n3\n4\n"), (10, "[2,2]\n1 2\n"), (10, "[2,2]\n1 2\n\n3 4\n"),
            (13, "[2,2]\n1 2\n3 4"), (3, "[]\n"), (3, "[]\n\n"), (4, "[]\n1"), (4, "[]\n1 2\n"),
        )

    def test_of_what_stands_behind(self):
        self.faults(
            (10, "[3]\n5 6 7\n\n"), (10, "[3]\n5 6 7\n8\n"), (10, "[3]\n5 6 7\n\0"), (5, "[]\n1\n2\n"),
            (14, "[2,2]\n1 2\n3 4\n5 6\n"), (10, "[3]\n5 6 7\n[3]\n5 6 7\n"),
        )

    def test_of_cells(self):
        self.faults(
            (5, "[3]\n05 6 7\n"), (5, "[3]\n00 6 7\n"), (5, "[3]\n-0 6 7\n"), (5, "[3]\n-05 6 7\n"), (5, "[3]\n-"),
            (5, "[3]\n--5"), (5, "[3]\n- 5"), (4, "[3]\n+5 6 7\n"), (5, "[3]\n5-6 7\n"), (5, "[3]\n5.0 6 7\n"),
            (5, "[3]\n5_0 6 7\n"), (4, "[3]\n\xb2 6 7\n"), (5, "[3]\n5\xb2 6 7\n"), (4, "[3]\n\xa05 6 7\n"),
        )

    def test_of_cells_beyond(self):
        self.faults(
            (19, "[1]\n1000000000000001\n"), (20, "[1]\n10000000000000000\n"), (19, "[1]\n2000000000000000\n"),
            (19, "[1]\n9999999999999999\n"), (20, "[1]\n-1000000000000001\n"), (21, "[1]\n-10000000000000000\n"),
            (20, "[1]\n1000000000000000"), (20, "[1]\n1000000000000000 \n"), (19, "[1]\n" + "8" * 5000 + "\n"),
            (21, "[2]\n5 1000000000000001\n"),
        )

    def test_of_texts_with_one_byte_off(self):
        texts = []
        for text in (
            "[]\n-10\n", "[]\n0\n", "[2]\n-1 0\n", "[10]\n1 2 3 4 5 6 7 8 9 0\n", "[2,2]\n0 -7\n10 5\n",
            "[2,1,2]\n1 2\n3 4\n", "[1,2,1,2]\n-1 0\n20 3\n", "[1024]\n", "[32,32]\n0 1",
            "[1]\n1000000000000000\n", "[1]\n-1000000000000000\n",
        ):
            texts += one_byte_off(text, SIGNS)
        self.read_as_told(texts)

    def test_of_any_byte(self):
        self.read_as_told(one_byte_off("[1,2]\n-1 0\n", bytes(range(256)).decode("latin-1")))

    def test_of_all_short_texts(self):
        for start, signs, most in (("", "[],-01\n ", 4), ("[]\n", "-01\n ", 4), ("[2]\n", "-01\n ", 5)):
            for size in range(most + 1):
                self.read_as_told([start + "".join(behind) for behind in itertools.product(signs, repeat=size)])

    def read_as_told(self, texts):
        """Each text is read as the array that the second way tells, or refused with its fault."""
        for start in range(0, len(texts), MOST_CALLS // 2):
            portion = texts[start:start + MOST_CALLS // 2]
            found = ask([call for text in portion for call in (("read", 0, as_bytes(text)), ("cells", 0))])
            kept = [-2]
            for text, answer, cells in zip(portion, found[::2], found[1::2]):
                told = told_by(text)
                if told is None:
                    self.assertEqual(answer, [-8, fault_of(text)], text)
                else:
                    self.assertEqual(answer, [0] + told[0], text)
                    kept = [0] + told[1]
                self.assertEqual(cells, kept, text)


if __name__ == "__main__":
    unittest.main()
