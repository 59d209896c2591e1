"""letter to state (promise 5): they ask for nothing to be laid down."""

import itertools
import unittest

from tests.support import TOP, ask, check_refused, last

FREE = [("begin", 2, 1), ("stock", [3, 6])]
HELD = FREE + [("lay", 14), ("propose", 10)]
OVER = HELD + [("finish",)]
# By letters: those that there are, and the proposition that's so always.
LETTERS = {1: ([2], 3), 2: ([10, 12], 15), 3: ([170, 204, 240], 255)}


def bits(p):
    return [p // 2 ** w % 2 for w in range(8)]


class Letter(unittest.TestCase):
    def test_told(self):
        for letters, (listed, most) in LETTERS.items():
            told = ask(("begin", letters, 1), *[("letter", i) for i in range(letters)])[1:]
            self.assertEqual(told, [[p] for p in listed])

    def test_worlds_in_which_it_is_so(self):
        for letters in LETTERS:
            for i in range(letters):
                found = last(("begin", letters, 1), ("letter", i))[0]
                self.assertEqual(bits(found), [int(w < 2 ** letters and w >> i & 1) for w in range(8)])

    def test_refused(self):
        for letters in LETTERS:
            for i in (letters, letters + 1, TOP):
                check_refused(self, [("begin", letters, 1)], ("letter", i), -2)
                check_refused(self, [("begin", letters, 1), ("lay", 1)], ("letter", i), -2)

    def test_wherever_it_is_asked(self):
        for setup in (FREE, HELD, OVER):
            self.assertEqual(ask(*setup, ("letter", 0), ("letter", 1))[-2:], [[10], [12]])


class Reckoned(unittest.TestCase):
    def test_told(self):
        for name, numbers, told in (
            ("not_of", (10,), 5), ("not_of", (0,), 15), ("not_of", (15,), 0), ("both", (10, 12), 8),
            ("either", (10, 12), 14), ("if_then", (10, 12), 13), ("if_then", (12, 10), 11), ("both", (5, 10), 0),
            ("either", (5, 10), 15), ("if_then", (0, 0), 15), ("if_then", (15, 0), 0), ("if_then", (15, 9), 9),
            ("both", (15, 9), 9), ("either", (0, 9), 9), ("both", (6, 6), 6), ("either", (6, 6), 6),
            ("if_then", (6, 6), 15),
        ):
            for setup in (FREE, HELD, OVER):
                self.assertEqual(last(*setup, (name, *numbers)), [told], (name, numbers))

    def test_world_by_world(self):
        for letters, (listed, most) in LETTERS.items():
            some = range(0, most + 1, 1 if letters < 3 else 17)
            for p, q in itertools.product(some, some):
                calls = [("not_of", p), ("both", p, q), ("either", p, q), ("if_then", p, q)]
                told = [part[0] for part in ask(("begin", letters, 1), *calls)[1:]]
                for w in range(8):
                    a, b, there = bits(p)[w], bits(q)[w], w < 2 ** letters
                    wanted = [there and not a, a and b, a or b, there and (not a or b)]
                    self.assertEqual([bits(found)[w] for found in told], [int(bool(one)) for one in wanted], (p, q, w))

    def test_refused(self):
        for letters, (listed, most) in LETTERS.items():
            for setup in ([("begin", letters, 1)], [("begin", letters, 1), ("lay", most)]):
                for p in (most + 1, TOP):
                    check_refused(self, setup, ("not_of", p), -22)
                    for name in ("both", "either", "if_then"):
                        check_refused(self, setup, (name, p, 0), -22)
                        check_refused(self, setup, (name, 0, p), -22)
                        check_refused(self, setup, (name, p, p), -22)
                        check_refused(self, setup, (name, p, most), -22)

    def test_ends(self):
        for letters, (listed, most) in LETTERS.items():
            calls = [("not_of", most), ("both", most, most), ("either", most, most), ("if_then", most, most)]
            self.assertEqual(ask(("begin", letters, 1), *calls)[1:], [[0], [most], [most], [most]])


RIGHT = [("lay", 14), ("propose", 10), ("propose", 12), ("finish",)]
BAD = [("lay", 14), ("answers", 10, 1), ("answers", 15, 2), ("finish",)]
CAUGHT = [("lay", 14), ("answers", 1, 1), ("answers", 2, 0), ("answers", 3, 2), ("finish",)]
SUMS = [("sums",)]


class Sums(unittest.TestCase):
    def test_none_is_over(self):
        self.assertEqual(last(("begin", 3, 1), ("sums",)), [0, 0, 0])
        self.assertEqual(last(*HELD, ("answers", 15, 0), ("sums",)), [0, 0, 0])

    def test_several(self):
        told = ask(("begin", 2, 1), *RIGHT, *SUMS, *BAD, *SUMS, *CAUGHT, *SUMS, *BAD, *SUMS, *CAUGHT, *SUMS)
        self.assertEqual([told[i] for i in (5, 10, 16, 21, 27)], [[1, 0, 0], [2, 0, 2], [3, 1, 5], [4, 1, 7], [5, 2, 10]])

    def test_caught_rightly(self):
        told = ask(("begin", 2, 1), ("rule", 1), *RIGHT, *SUMS, ("rule", 0), *RIGHT, *SUMS)
        self.assertEqual([told[5], told[6], told[11], told[12]], [[3, 2, 0], [1, 1, 0], [0, 2, 0], [2, 1, 0]])

    def test_without_answers(self):
        self.assertEqual(last(("begin", 1, 1), ("lay", 2), ("finish",), ("lay", 1), ("finish",), ("sums",)), [2, 0, 0])

    def test_what_is_held_does_not_count(self):
        self.assertEqual(last(("begin", 2, 1), *BAD, *CAUGHT[:-1], ("sums",)), [1, 0, 2])

    def test_refused_finish_does_not_count(self):
        self.assertEqual(last(("begin", 2, 1), ("finish",), *BAD, ("finish",), ("sums",)), [1, 0, 2])

    def test_counted_when_it_was_over(self):
        doubted = [("begin", 2, 9), ("lay", 14), ("propose", 10)]
        self.assertEqual(last(*doubted, ("finish",), ("learn", 1), ("sums",)), [1, 0, 0])
        self.assertEqual(last(*doubted, ("learn", 1), ("finish",), ("sums",)), [1, 0, 1])

    def test_eight_bad(self):
        calls = [("begin", 2, 1), ("lay", 14)] + [("answers", 15, 0)] * 8
        self.assertEqual(last(*calls, ("finish",), ("sums",)), [1, 1, 8])

    def test_taken_back_and_done_again(self):
        calls = [("begin", 2, 1)] + BAD + CAUGHT
        told = ask(*calls, *[("back",), ("sums",)] * 6, *[("again",), ("sums",)] * 6)[len(calls):]
        self.assertEqual(told[1:12:2], [[1, 0, 2]] * 5 + [[0, 0, 0]])
        self.assertEqual(told[13:24:2], [[1, 0, 2]] * 5 + [[2, 1, 5]])

    def test_another_one_instead(self):
        calls = [("begin", 2, 1)] + BAD + [("back",), ("strike", 0), ("finish",), ("sums",)]
        self.assertEqual(last(*calls), [1, 0, 1])

    def test_begin_forgets_them(self):
        self.assertEqual(last(("begin", 2, 1), *BAD, ("begin", 2, 1), ("sums",)), [0, 0, 0])
        self.assertEqual(last(("begin", 2, 1), *BAD, ("begin", 4, 1), ("sums",)), [1, 0, 2])


class State(unittest.TestCase):
    def check_points(self, points):
        """Each call, and what state tells behind it."""
        calls = []
        for call, wanted in points:
            calls.append(call)
            self.assertEqual(last(*calls, ("state",)), wanted, calls)
        told = ask(*[part for call, wanted in points for part in (call, ("state",))])
        self.assertEqual(told[1::2], [wanted for call, wanted in points])

    def test_at_each_point(self):
        self.check_points([
            (("begin", 2, 9), [2, 9, 0, 0, 0, 0, 0]),
            (("rule", 1), [2, 9, 1, 0, 0, 1, 0]),
            (("stock", [1, 2, 3, 4, 5, 6]), [2, 9, 1, 0, 0, 2, 0, 1, 2, 3, 4, 5, 6]),
            (("lay", 14), [2, 9, 1, 14, 0, 3, 0, 1, 2, 3, 4, 5, 6]),
            (("propose", 10), [2, 9, 1, 14, 1, 4, 0, 1, 2, 3, 4, 5, 6]),
            (("answers", 10, 0), [2, 9, 1, 14, 2, 5, 0, 1, 2, 3, 4, 5, 6]),
            (("learn", 8), [2, 8, 1, 14, 2, 6, 0, 1, 2, 3, 4, 5, 6]),
            (("press", 12), [2, 8, 1, 14, 3, 7, 0, 1, 2, 3, 4, 5, 6]),
            (("strike", 1), [2, 8, 1, 14, 2, 8, 0, 1, 2, 3, 4, 5, 6]),
            (("amend", 0, 0), [2, 8, 1, 14, 2, 9, 0, 1, 2, 3, 4, 5, 6]),
            (("stock", [15, 0]), [2, 8, 1, 14, 2, 10, 0, 15, 0]),
            (("lay", 14), [2, 8, 1, 14, 2, 10, 0, 15, 0]),
            (("finish",), [2, 8, 1, 0, 0, 11, 0, 15, 0]),
            (("rule", 0), [2, 8, 0, 0, 0, 12, 0, 15, 0]),
            (("stock", []), [2, 8, 0, 0, 0, 13, 0]),
            (("back",), [2, 8, 0, 0, 0, 12, 1, 15, 0]),
            (("back",), [2, 8, 1, 0, 0, 11, 2, 15, 0]),
            (("back",), [2, 8, 1, 14, 2, 10, 3, 15, 0]),
            (("again",), [2, 8, 1, 0, 0, 11, 2, 15, 0]),
            (("right", 3), [2, 8, 1, 0, 0, 11, 2, 15, 0]),
            (("lay", 7), [2, 8, 1, 7, 0, 12, 0, 15, 0]),
            (("begin", 1, 2), [1, 2, 0, 0, 0, 0, 0]),
        ])

    def test_one_and_three_letters(self):
        self.check_points([
            (("begin", 1, 3), [1, 3, 0, 0, 0, 0, 0]),
            (("lay", 2), [1, 3, 0, 2, 0, 1, 0]),
            (("begin", 3, 255), [3, 255, 0, 0, 0, 0, 0]),
            (("lay", 255), [3, 255, 0, 255, 0, 1, 0]),
            (("stock", [255, 255, 0, 0, 128, 1]), [3, 255, 0, 255, 0, 2, 0, 255, 255, 0, 0, 128, 1]),
            (("stock", [0]), [3, 255, 0, 255, 0, 3, 0, 0]),
        ])

    def test_pressed(self):
        self.assertEqual(last(("begin", 2, 1), ("lay", 14), ("press", 8), ("state",)), [2, 1, 0, 14, 2, 2, 0])

    def test_eight_answers(self):
        calls = [("begin", 2, 1), ("lay", 14)] + [("propose", 15)] * 9
        self.assertEqual(last(*calls, ("state",)), [2, 1, 0, 14, 8, 9, 0])

    def test_twenty_changes_and_more(self):
        for many, can in ((19, 19), (20, 20), (21, 20), (22, 20), (40, 20)):
            calls = [("begin", 2, 1)] + [("learn", 15)] * many
            self.assertEqual(last(*calls, ("state",)), [2, 1, 0, 0, 0, can, 0])

    def test_twenty_one_changes_taken_back(self):
        changes = [("stock", [i % 16]) for i in range(21)]
        told = ask(("begin", 2, 1), *changes, *[("back",)] * 21, ("state",))
        self.assertEqual(told[-2:], [[-6], [2, 1, 0, 0, 0, 0, 20, 0]])
        told = ask(("begin", 2, 1), *changes, *[("back",), ("state",)] * 5, *[("again",), ("state",)] * 5)[22:]
        falling = [[2, 1, 0, 0, 0, 20 - n, n, (20 - n) % 16] for n in range(1, 6)]
        self.assertEqual(told[1:10:2], falling)
        self.assertEqual(told[11:20:2], falling[-2::-1] + [[2, 1, 0, 0, 0, 20, 0, 4]])

    def test_nothing_is_refused(self):
        for setup in (FREE, HELD, OVER, HELD + [("answers", 15, 0)]):
            self.assertEqual(last(*setup, ("state",))[0], 2)


if __name__ == "__main__":
    unittest.main()
