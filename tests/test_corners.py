"""The corners that the document lists, as far as these calls reach them."""

import unittest

from tests.support import ask, last

HELD = [("begin", 2, 1), ("lay", 14)]


class Corners(unittest.TestCase):
    def test_laid_down_what_is_known_not_to_be_so(self):
        told = ask(*HELD, ("propose", 10), ("propose", 12), ("propose", 1), ("stands",), ("finish",))[1:]
        self.assertEqual(told, [[0], [0, 0, 1], [1, 1, 1], [0, 2, 1], [1, 4], [0, 3, 0]])

    def test_one_who_is_caught_goes_on(self):
        told = ask(
            *HELD, ("answers", 1, 1), ("propose", 0), ("right", 5), ("answers", 3, 0), ("concede", 0), ("deny", 0),
            ("press", 0), ("row", [0, 15, 1]), ("stands",), ("finish",),
        )[2:]
        self.assertEqual(told, [
            [0, 0, 0], [1, 1, 0], [1, 1], [0, 1, 0], [1, 0], [-33], [1, 0], [3, 1, 1, 1], [0, 0], [2, 4, 2],
        ])

    def test_one_who_is_caught_goes_on_by_rule_1(self):
        told = ask(
            ("begin", 2, 1), ("rule", 1), ("lay", 14), ("propose", 10), ("propose", 12), ("propose", 8),
            ("propose", 14), ("propose", 0), ("finish",),
        )[3:]
        self.assertEqual(told, [[0, 0, 1], [0, 0, 0], [0, 0, 0], [1, 1, 0], [0, 2, 0], [3, 5, 0]])

    def test_caught_and_freed_by_amend_and_strike(self):
        caught = HELD + [("answers", 1, 1)]
        self.assertEqual(ask(*caught, ("amend", 0, 0), ("stands",), ("finish",))[3:], [[1], [3, 14], [0, 1, 0]])
        self.assertEqual(ask(*caught, ("strike", 0), ("stands",), ("finish",))[3:], [[0], [3, 14], [0, 0, 0]])

    def test_so_always_or_never(self):
        for letters, most in ((1, 3), (2, 15), (3, 255)):
            for rule in (0, 1):
                held = [("begin", letters, 1), ("rule", rule), ("lay", most - 1)]
                told = ask(*held, ("right", most), ("right", 0), ("may", most), ("may", 0), ("concede", 0), ("deny", most))
                self.assertEqual(told[3:], [[1, 1], [0, 2], [2], [1], [-33], [-33]])

    def test_laid_down_what_is_so_always(self):
        told = ask(("begin", 2, 3), ("lay", 15), ("propose", 3), ("propose", 12), ("propose", 1), ("finish",))[1:]
        self.assertEqual(told, [[1], [1, 0, 2], [0, 2, 2], [2, 0, 2], [0, 3, 0]])

    def test_pressed_for_what_is_conceded_already(self):
        self.assertEqual(ask(*HELD, ("press", 8), ("press", 8), ("press", 12), ("log", 3))[2:], [
            [2, 6, 8], [1, 8], [1, 12], [12, 1, 0],
        ])

    def test_rule_changed_between_two(self):
        proposed = [("lay", 14), ("propose", 10), ("propose", 12), ("finish",)]
        told = ask(("begin", 2, 1), *proposed, ("rule", 1), *proposed, ("rule", 0), *proposed)
        first, second = [[0], [0, 0, 1], [1, 1, 1], [0, 2, 0]], [[0], [0, 0, 1], [0, 0, 0], [3, 2, 0]]
        self.assertEqual(told, [[0]] + first + [[0]] + second + [[1]] + first)

    def test_learnt_in_the_middle(self):
        told = ask(
            ("begin", 2, 9), ("lay", 14), ("propose", 10), ("log", 0), ("learn", 8), ("log", 0), ("right", 10),
            ("back",), ("log", 0), ("again",), ("finish",),
        )[1:]
        self.assertEqual(told, [
            [2], [2, 0, 3], [10, 2, 0], [1], [10, 2, 1], [1, 0], [2], [10, 2, 0], [0], [1, 1, 1],
        ])

    def test_learnt_makes_a_bad_answer_right(self):
        told = ask(("begin", 2, 9), ("lay", 14), ("answers", 10, 1), ("learn", 8), ("log", 0), ("finish",))[2:]
        self.assertEqual(told, [[0, 2, 2], [1], [10, 1, 0], [0, 1, 0]])

    def test_ninth_answer(self):
        eight = HELD + [("propose", 15)] * 8
        told = ask(*eight, ("propose", 15), ("answers", 15, 1), ("press", 15), ("log", 7), ("log", 8), ("finish",))
        self.assertEqual(told[10:], [[-28], [-28], [-28], [15, 1, 0], [-2], [0, 8, 0]])

    def test_all_struck_out(self):
        told = ask(*HELD, ("answers", 10, 1), ("propose", 8), ("strike", 0), ("strike", 0), ("strike", 0), ("stands",))[4:]
        self.assertEqual(told, [[1], [0], [-2], [3, 14]])
        told = last(*HELD, ("answers", 1, 1), ("strike", 0), ("finish",))
        self.assertEqual(told, [0, 0, 0])

    def test_empty_stock(self):
        told = ask(*HELD, ("from_stock", 0, 10), ("from_stock", 1, 10), ("stock", []), ("from_stock", 1, 14), ("from_stock", 2, 8))
        self.assertEqual(told[2:], [[0], [-33], [0], [0], [-33]])

    def test_one_letter(self):
        told = ask(("begin", 1, 1), ("lay", 2), ("propose", 1), ("propose", 3), ("concede", 2), ("false",), ("finish",))
        self.assertEqual(told[1:], [[0], [0, 2, 1], [1, 1, 1], [1, 2], [1], [0, 2, 0]])


if __name__ == "__main__":
    unittest.main()
