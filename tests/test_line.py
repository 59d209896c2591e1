"""The interface: how calls are written and answers given back, number by number."""

import random
import unittest

from disputation.hall import answers
from tests.support import ASKED, NAMES, TOP, ask, decode, drawn_call, encode

# Every call, by its number, as the document writes it: 45 in all, with sums and state once more behind finish.
LINE = [
    0, 2, 1, 1, 0, 9, 2, 3, 6, 2, 14, 3, 10, 4, 12, 1, 5, 12, 6, 2, 7, 1, 2, 8, 1, 11, 12, 13, 8, 14, 3, 2, 4, 8,
    15, 16, 1, 17, 8, 18, 5, 19, 10, 20, 21, 0, 10, 22, 23, 24, 25, 26, 27, 28, 29, 0, 30, 31, 0, 32, 33, 3, 5, 34,
    35, 36, 1, 37, 10, 38, 3, 6, 39, 3, 6, 40, 3, 6, 41, 42, 10, 41, 42,
]
TOLD = [
    1, 0, 1, 0, 1, 2, 1, 0, 3, 0, 0, 1, 3, 1, 1, 1, 2, 1, 12, 1, 2, 1, 1, 1, 1, 1, 8, 1, 0, 2, 0, 2, 4, 3, 0, 1, 0,
    2, 1, 4, 3, 12, 2, 1, 1, -33, 1, -33, 1, 1, 1, 4, 1, 0, 1, 1, 2, 1, 1, 2, 1, 1, 1, -33, 3, 2, 0, 1, 2, 1, 1, 1, 0,
    1, -33, 1, 0, 1, -33, 2, 1, 1, 1, 1, 1, 12, 1, 1, 1, 12, 1, 5, 1, 2, 1, 7, 1, 14, 3, 0, 0, 0,
    9, 2, 1, 0, 14, 2, 9, 0, 3, 6, 3, 1, 2, 1, 3, 1, 0, 1, 9, 2, 1, 0, 0, 0, 10, 0, 3, 6,
]
CALLS = [
    ("begin", 2, 1), ("rule", 0), ("stock", [3, 6]), ("lay", 14), ("propose", 10), ("answers", 12, 1), ("press", 12),
    ("strike", 2), ("amend", 1, 2), ("learn", 1), ("back",), ("again",), ("right", 8), ("row", [2, 4, 8]), ("stands",),
    ("log", 1), ("concede", 8), ("deny", 5), ("may", 10), ("false",), ("from_stock", 0, 10), ("reach",), ("bad",),
    ("first",), ("caught",), ("mended",), ("least",), ("laids",), ("laid", 0), ("knowns",), ("known", 0), ("other",),
    ("clash", 3, 5), ("clashes",), ("verdict",), ("letter", 1), ("not_of", 10), ("both", 3, 6), ("either", 3, 6),
    ("if_then", 3, 6), ("sums",), ("state",), ("finish",), ("sums",), ("state",),
]


class Line(unittest.TestCase):
    def test_number_by_number(self):
        self.assertEqual(answers(LINE), TOLD)
        self.assertEqual(len(decode(TOLD)), 45)

    def test_line_up_to_each_call(self):
        at, sizes = 0, [len(part) for part in decode(TOLD)]
        for many, call in enumerate(CALLS):
            told = answers(encode(CALLS[:many + 1]))
            at += 1 + sizes[many]
            self.assertEqual(told, TOLD[:at], call)
        self.assertEqual(encode(CALLS), LINE)
        self.assertEqual({call[0] for call in CALLS}, set(NAMES))

    def test_no_calls(self):
        self.assertEqual(answers([]), [])

    def test_what_is_handed_in_stays(self):
        line = list(LINE)
        first = answers(line)
        self.assertEqual(line, LINE)
        self.assertEqual(answers(line), first)
        self.assertEqual(line, LINE)

    def test_what_is_given_back_is_its_own(self):
        first = answers(LINE)
        first.clear()
        self.assertEqual(answers(LINE), TOLD)

    def test_nothing_is_kept(self):
        answers(LINE[:-1])
        self.assertEqual(answers([15]), [1, -11])

    def test_kinds(self):
        told = answers(LINE + [0, 2, 1, 2, 14, 4, 10, 0, 4, 10, 1, 16, 0, 16, 1, 10])
        self.assertIs(type(told), list)
        self.assertEqual({type(number) for number in told}, {int})

    def test_a_line_of_45_calls(self):
        self.assertEqual(answers([0, 2, 1, 2, 14] + [15] * 43), [1, 0, 1, 0] + [2, 3, 14] * 43)

    def test_45_calls_of_each_question(self):
        chance = random.Random(9)
        for name in ASKED:
            call = drawn_call(chance, 3, name)
            told = ask(("begin", 3, 1), ("lay", 254), ("stock", [2, 4, 8, 16, 32, 64]), *[call] * 42)
            self.assertEqual(told[3:], [told[3]] * 42)

    def test_longest_lists(self):
        line = [0, 2, 1]
        for number in (9, 14) * 22:
            line += [number, 255] + [TOP] * 255
        self.assertEqual(len(line), 11311)
        self.assertEqual(answers(line), [1, 0] + [1, -22] * 44)

    def test_lists_of_all_sizes(self):
        for size in (0, 1, 5, 6, 7, 8, 9, 254, 255):
            line = [0, 2, 1, 2, 14, 9, size] + [15] * size + [14, size] + [15] * size + [15]
            stock = [1, size] if size <= 6 else [1, -22]
            row = [1 + size, size] + [1] * size if size <= 8 else [1, -22]
            self.assertEqual(answers(line), [1, 0, 1, 0] + stock + row + [2, 3, 14])

    def test_ends_of_the_numbers(self):
        for number, size in (
            (1, 1), (2, 1), (3, 1), (4, 2), (5, 1), (8, 1), (13, 1), (17, 1), (18, 1), (19, 1), (21, 2), (33, 2), (37, 1),
            (38, 2), (39, 2), (40, 2),
        ):
            self.assertEqual(answers([0, 3, 255, number] + [TOP] * size), [1, 0, 1, -22], number)
        for number, size in ((6, 1), (7, 2), (16, 1)):
            self.assertEqual(answers([0, 3, 255, 2, 255, number] + [TOP] * size), [1, 0, 1, 1, 1, -2], number)
        for number in (29, 31):
            self.assertEqual(answers([0, 3, 255, 2, 255, number, TOP]), [1, 0, 1, 1, 1, -33], number)
        self.assertEqual(answers([0, 3, 255, 36, TOP]), [1, 0, 1, -2])
        told = answers([0, 3, 255, 2, 255, 3, 0, 4, 0, 0, 13, 0, 7, 0, 0, 16, 0, 6, 0, 1, 0])
        self.assertEqual(told, [1, 0, 1, 1, 3, 0, 2, 8, 3, 1, 0, 8, 2, 0, 2, 1, 0, 3, 0, 0, 0, 1, 1, 1, -16])


if __name__ == "__main__":
    unittest.main()
