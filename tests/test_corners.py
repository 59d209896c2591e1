"""The corners that the document lists, with what is judged behind each of them."""

import unittest

from tests.support import ask, last, told_by_reference

HELD = [("begin", 2, 1), ("lay", 14)]
RULE_1 = [("begin", 2, 1), ("rule", 1), ("lay", 14)]
LATER = [(name,) for name in (
    "reach", "bad", "first", "caught", "mended", "least", "laids", "knowns", "other", "clashes", "verdict", "sums",
    "state",
)] + [("laid", 0), ("known", 0), ("clash", 3, 5), ("letter", 1), ("not_of", 10), ("both", 3, 6), ("if_then", 3, 6)]


class Corners(unittest.TestCase):
    def judged(self, calls, **wanted):
        """What these calls answer behind the others, a line each; and all later ones as the slow reading has it."""
        for name, told in wanted.items():
            self.assertEqual(last(*calls, (name,)), told, (calls, name))
        line = [*calls, *LATER]
        self.assertEqual(ask(*line), told_by_reference(line), calls)

    def test_laid_down_what_is_known_not_to_be_so(self):
        told = ask(*HELD, ("propose", 10), ("propose", 12), ("propose", 1), ("stands",), ("finish",))[1:]
        self.assertEqual(told, [[0], [0, 0, 1], [1, 1, 1], [0, 2, 1], [1, 4], [0, 3, 0]])
        self.judged(HELD, bad=[0], reach=[1], laids=[15], knowns=[15], clashes=[12], verdict=[0])
        self.judged(
            HELD + [("propose", 10), ("propose", 12), ("propose", 1)], bad=[0], first=[-33], caught=[-33],
            mended=[3, 0, 1, 0], least=[0], laids=[4], knowns=[3], other=[1, 1], clashes=[12], verdict=[0],
        )

    def test_one_who_is_caught_goes_on(self):
        told = ask(
            *HELD, ("answers", 1, 1), ("propose", 0), ("right", 5), ("answers", 3, 0), ("concede", 0), ("deny", 0),
            ("press", 0), ("row", [0, 15, 1]), ("stands",), ("finish",),
        )[2:]
        self.assertEqual(told, [
            [0, 0, 0], [1, 1, 0], [1, 1], [0, 1, 0], [1, 0], [-33], [1, 0], [3, 1, 1, 1], [0, 0], [2, 4, 2],
        ])
        self.judged(
            HELD + [("answers", 1, 1), ("propose", 0), ("answers", 3, 0)], reach=[1], bad=[2, 0, 2], first=[0, 0],
            caught=[1], mended=[3, 0, 0, 1], least=[3, 0, 1, 2], laids=[0], knowns=[0], other=[3, 0, 1, 2], verdict=[2],
        )
        self.judged(HELD + [("answers", 1, 1), ("stock", [1, 2, 4])], reach=[1])

    def test_one_who_is_caught_goes_on_by_rule_1(self):
        told = ask(
            ("begin", 2, 1), ("rule", 1), ("lay", 14), ("propose", 10), ("propose", 12), ("propose", 8),
            ("propose", 14), ("propose", 0), ("finish",),
        )[3:]
        self.assertEqual(told, [[0, 0, 1], [0, 0, 0], [0, 0, 0], [1, 1, 0], [0, 2, 0], [3, 5, 0]])
        self.judged(
            RULE_1 + [("propose", 10), ("propose", 12), ("propose", 14)], bad=[0], first=[-33], caught=[2],
            mended=[3, 0, 0, 1], least=[0], laids=[2], knowns=[1], other=[1, 1], verdict=[3],
        )

    def test_caught_and_freed_by_amend_and_strike(self):
        caught = HELD + [("answers", 1, 1)]
        self.assertEqual(ask(*caught, ("amend", 0, 0), ("stands",), ("finish",))[3:], [[1], [3, 14], [0, 1, 0]])
        self.assertEqual(ask(*caught, ("strike", 0), ("stands",), ("finish",))[3:], [[0], [3, 14], [0, 0, 0]])
        self.judged(caught, caught=[1], verdict=[2])
        self.judged(caught + [("amend", 0, 0)], caught=[-33], bad=[0], verdict=[0])
        self.judged(caught + [("strike", 0)], caught=[-33], bad=[0], verdict=[0])

    def test_so_always_or_never(self):
        for letters, most in ((1, 3), (2, 15), (3, 255)):
            for rule in (0, 1):
                held = [("begin", letters, 1), ("rule", rule), ("lay", most - 1)]
                told = ask(*held, ("right", most), ("right", 0), ("may", most), ("may", 0), ("concede", 0), ("deny", most))
                self.assertEqual(told[3:], [[1, 1], [0, 2], [2], [1], [-33], [-33]])
                rightly = held + [("propose", most), ("propose", 0)]
                told = ask(*rightly, ("bad",), ("laids",), ("knowns",), ("other",), ("clash", most, 0), ("verdict",))
                self.assertEqual(told[5:], [[0], [most], [most], [0], [0], [0]])
                turned = held + [("answers", most, 2), ("answers", 0, 2)]
                told = ask(*turned, ("bad",), ("mended",), ("least",), ("laids",), ("knowns",), ("verdict",))
                self.assertEqual(told[5:], [[2, 0, 1], [2, 1, 0], [2, 0, 1], [0], [0], [1]])

    def test_laid_down_what_is_so_always(self):
        told = ask(("begin", 2, 3), ("lay", 15), ("propose", 3), ("propose", 12), ("propose", 1), ("finish",))[1:]
        self.assertEqual(told, [[1], [1, 0, 2], [0, 2, 2], [2, 0, 2], [0, 3, 0]])
        self.judged(
            [("begin", 2, 3), ("lay", 15), ("propose", 3), ("propose", 12), ("propose", 1)], bad=[0], knowns=[1],
            other=[0], clashes=[0], verdict=[0],
        )

    def test_pressed_for_what_is_conceded_already(self):
        self.assertEqual(ask(*HELD, ("press", 8), ("press", 8), ("press", 12), ("log", 3))[2:], [
            [2, 6, 8], [1, 8], [1, 12], [12, 1, 0],
        ])
        self.judged(
            HELD + [("press", 8), ("press", 8), ("press", 12)], bad=[0], mended=[4, 0, 1, 1, 1], least=[0],
            other=[3, 1, 2, 3], verdict=[0], state=[2, 1, 0, 14, 4, 4, 0],
        )

    def test_rule_changed_between_two(self):
        proposed = [("lay", 14), ("propose", 10), ("propose", 12), ("finish",)]
        told = ask(("begin", 2, 1), *proposed, ("rule", 1), *proposed, ("rule", 0), *proposed)
        first, second = [[0], [0, 0, 1], [1, 1, 1], [0, 2, 0]], [[0], [0, 0, 1], [0, 0, 0], [3, 2, 0]]
        self.assertEqual(told, [[0]] + first + [[0]] + second + [[1]] + first)
        calls = [("begin", 2, 1)] + proposed + [("rule", 1)] + proposed
        self.judged(calls, sums=[2, 1, 0], state=[2, 1, 1, 0, 0, 9, 0], bad=[-6], verdict=[-6])
        self.judged(calls + [("rule", 0)] + proposed[:-1], sums=[2, 1, 0], bad=[0], other=[1, 1], verdict=[0])

    def test_learnt_in_the_middle(self):
        told = ask(
            ("begin", 2, 9), ("lay", 14), ("propose", 10), ("log", 0), ("learn", 8), ("log", 0), ("right", 10),
            ("back",), ("log", 0), ("again",), ("finish",),
        )[1:]
        self.assertEqual(told, [
            [2], [2, 0, 3], [10, 2, 0], [1], [10, 2, 1], [1, 0], [2], [10, 2, 0], [0], [1, 1, 1],
        ])
        doubted = [("begin", 2, 9), ("lay", 14), ("propose", 10)]
        self.judged(doubted, bad=[0], mended=[1, 2], least=[0], knowns=[9], verdict=[0])
        self.judged(
            doubted + [("learn", 8)], bad=[1, 0], first=[0, 1], mended=[1, 1], least=[1, 0], laids=[0], knowns=[9],
            other=[1, 0], verdict=[1], state=[2, 8, 0, 14, 1, 3, 0],
        )
        self.judged(doubted + [("learn", 8), ("back",)], bad=[0], state=[2, 9, 0, 14, 1, 2, 1])

    def test_learnt_makes_a_bad_answer_right(self):
        told = ask(("begin", 2, 9), ("lay", 14), ("answers", 10, 1), ("learn", 8), ("log", 0), ("finish",))[2:]
        self.assertEqual(told, [[0, 2, 2], [1], [10, 1, 0], [0, 1, 0]])

    def test_ninth_answer(self):
        eight = HELD + [("propose", 15)] * 8
        told = ask(*eight, ("propose", 15), ("answers", 15, 1), ("press", 15), ("log", 7), ("log", 8), ("finish",))
        self.assertEqual(told[10:], [[-28], [-28], [-28], [15, 1, 0], [-2], [0, 8, 0]])
        self.judged(
            eight + [("propose", 15), ("answers", 15, 0)], bad=[0], mended=[8] + [1] * 8, least=[0], laids=[15],
            verdict=[0], state=[2, 1, 0, 14, 8, 9, 0],
        )

    def test_all_struck_out(self):
        told = ask(*HELD, ("answers", 10, 1), ("propose", 8), ("strike", 0), ("strike", 0), ("strike", 0), ("stands",))[4:]
        self.assertEqual(told, [[1], [0], [-2], [3, 14]])
        told = last(*HELD, ("answers", 1, 1), ("strike", 0), ("finish",))
        self.assertEqual(told, [0, 0, 0])
        struck = HELD + [("answers", 10, 1), ("answers", 1, 1), ("strike", 0), ("strike", 0)]
        self.judged(
            struck, bad=[0], first=[-33], caught=[-33], mended=[0], least=[0], laids=[15], knowns=[15], other=[0],
            verdict=[0], state=[2, 1, 0, 14, 0, 5, 0],
        )
        self.judged(struck + [("finish",)], sums=[1, 0, 0])

    def test_empty_stock(self):
        told = ask(*HELD, ("from_stock", 0, 10), ("from_stock", 1, 10), ("stock", []), ("from_stock", 1, 14), ("from_stock", 2, 8))
        self.assertEqual(told[2:], [[0], [-33], [0], [0], [-33]])
        self.judged(HELD, reach=[1], state=[2, 1, 0, 14, 0, 1, 0])
        self.judged(HELD + [("stock", [3, 6])], reach=[3], state=[2, 1, 0, 14, 0, 2, 0, 3, 6])
        self.judged(HELD + [("stock", [3, 6]), ("stock", [])], reach=[1], state=[2, 1, 0, 14, 0, 3, 0])

    def test_one_letter(self):
        told = ask(("begin", 1, 1), ("lay", 2), ("propose", 1), ("propose", 3), ("concede", 2), ("false",), ("finish",))
        self.assertEqual(told[1:], [[0], [0, 2, 1], [1, 1, 1], [1, 2], [1], [0, 2, 0]])

    def test_twenty_one_changes_taken_back(self):
        finished = [("begin", 2, 1), ("lay", 14), ("answers", 15, 0), ("finish",)]
        calls = finished + [("learn", 15)] * 18
        told = ask(*calls, *[("back",)] * 21, ("sums",), ("state",))[-3:]
        self.assertEqual(told, [[-6], [0, 0, 0], [2, 1, 0, 14, 0, 0, 20]])
        told = ask(*calls, *[("back",)] * 20, ("again",), ("again",), ("sums",))[-3:]
        self.assertEqual(told, [[19], [18], [1, 1, 1]])


if __name__ == "__main__":
    unittest.main()
