"""rule to finish (promise 2).

With two letters: world 0 has neither, 1 the first alone, 2 the second alone, 3 both. So 10 is that the first
is so, 12 the second, 14 either, 8 both.
"""

import unittest

from tests.support import TOP, ask, check_refused, last

# Known is that neither is so; it's laid down that either is.
HELD = [("begin", 2, 1), ("stock", [3, 6]), ("lay", 14)]
FREE = [("begin", 2, 1), ("stock", [3, 6])]
WRONG = (16, 255, TOP)


def full(many=8):
    return HELD + [("propose", 15)] * many


class Rule(unittest.TestCase):
    def test_what_it_was(self):
        told = ask(("begin", 1, 1), ("rule", 0), ("rule", 1), ("rule", 1), ("rule", 0), ("rule", 0))
        self.assertEqual(told, [[0], [0], [0], [1], [1], [0]])

    def test_refused(self):
        for r in (2, 3, TOP):
            check_refused(self, FREE, ("rule", r), -22)
            check_refused(self, HELD, ("rule", r), -22)
        for r in (0, 1):
            check_refused(self, HELD, ("rule", r), -16)
            check_refused(self, HELD + [("propose", 10), ("back",)], ("rule", r), -16)

    def test_rules_differ(self):
        proposed = [("lay", 14), ("propose", 10), ("propose", 12)]
        self.assertEqual(ask(("begin", 2, 1), *proposed)[2:], [[0, 0, 1], [1, 1, 1]])
        self.assertEqual(ask(("begin", 2, 1), ("rule", 1), *proposed)[3:], [[0, 0, 1], [0, 0, 0]])


class Lay(unittest.TestCase):
    def test_known_to_be_so_or_not_or_neither(self):
        for letters, known, p, told in (
            (1, 1, 1, 1), (1, 1, 3, 1), (1, 1, 2, 0), (1, 3, 1, 2), (1, 3, 2, 2), (1, 3, 3, 1),
            (2, 9, 9, 1), (2, 9, 13, 1), (2, 9, 6, 0), (2, 9, 14, 2), (2, 15, 15, 1),
            (3, 128, 128, 1), (3, 128, 127, 0), (3, 129, 128, 2), (3, 255, 255, 1), (3, 255, 254, 2),
        ):
            self.assertEqual(ask(("begin", letters, known), ("lay", p), ("stands",))[1], [told], (letters, known, p))

    def test_what_is_laid_down_stands(self):
        self.assertEqual(last(*HELD, ("stands",)), [3, 14])
        self.assertEqual(last(("begin", 3, 1), ("lay", 255), ("stands",)), [8, 255])

    def test_nothing_was_answered(self):
        self.assertEqual(last(*HELD, ("propose", 10), ("finish",), ("lay", 14), ("log", 0)), [-2])

    def test_refused(self):
        for p in WRONG:
            check_refused(self, FREE, ("lay", p), -22)
            check_refused(self, HELD, ("lay", p), -22)
        for p in (0, 1, 14, 15):
            check_refused(self, HELD, ("lay", p), -17)
        check_refused(self, FREE, ("lay", 0), -33)

    def test_ends_of_the_propositions(self):
        for letters, most in ((1, 3), (2, 15), (3, 255)):
            self.assertEqual(ask(("begin", letters, 1), ("lay", most + 1), ("lay", most))[1:], [[-22], [1]])


class Propose(unittest.TestCase):
    def test_answered_rightly(self):
        for p, told in (
            (14, [1, 1, 3]), (15, [1, 1, 3]), (0, [0, 2, 3]), (1, [0, 2, 3]),
            (10, [0, 0, 1]), (8, [0, 0, 2]), (5, [1, 0, 1]), (13, [1, 0, 2]),
        ):
            self.assertEqual(last(*HELD, ("propose", p)), told, p)

    def test_doubted(self):
        held = [("begin", 2, 9), ("lay", 14)]
        self.assertEqual(ask(*held, ("propose", 10), ("stands",), ("log", 0))[2:], [[2, 0, 3], [3, 14], [10, 2, 0]])

    def test_by_what_stands_or_by_what_was_laid_down(self):
        # Under rule 1 that it follows or not is told of what was laid down, however little stands.
        proposed = [("lay", 14), ("propose", 3), ("propose", 2), ("propose", 4)]
        self.assertEqual(ask(("begin", 2, 1), *proposed)[2:], [[1, 0, 1], [1, 1, 1], [0, 2, 1]])
        self.assertEqual(ask(("begin", 2, 1), ("rule", 1), *proposed)[3:], [[1, 0, 1], [0, 0, 0], [0, 0, 0]])

    def test_one_and_three_letters(self):
        self.assertEqual(ask(("begin", 1, 1), ("lay", 3), ("propose", 2), ("propose", 1))[2:], [[0, 0, 1], [1, 1, 1]])
        told = ask(("begin", 3, 1), ("lay", 254), ("propose", 15), ("propose", 240), ("propose", 1))[2:]
        self.assertEqual(told, [[1, 0, 3], [0, 2, 3], [0, 2, 3]])

    def test_refused(self):
        for p in WRONG:
            for setup in (FREE, HELD, full()):
                check_refused(self, setup, ("propose", p), -22)
        for p in (0, 15):
            check_refused(self, FREE, ("propose", p), -6)
            check_refused(self, full(), ("propose", p), -28)


class Answers(unittest.TestCase):
    def test_right_or_bad(self):
        for p, a, told in (
            (14, 1, [1, 1, 3]), (14, 0, [0, 1, 0]), (14, 2, [0, 1, 3]), (10, 0, [1, 0, 1]), (10, 1, [0, 0, 2]),
            (10, 2, [0, 0, 3]), (1, 1, [0, 0, 0]), (5, 1, [1, 1, 1]), (5, 0, [0, 1, 2]),
        ):
            self.assertEqual(last(*HELD, ("answers", p, a)), told, (p, a))

    def test_right_doubt(self):
        held = [("begin", 2, 9), ("lay", 14)]
        self.assertEqual(last(*held, ("answers", 10, 2)), [1, 2, 3])
        self.assertEqual(last(*held, ("answers", 10, 0)), [0, 2, 1])

    def test_bad_ones_count_for_what_stands(self):
        told = ask(*HELD, ("answers", 10, 1), ("right", 12), ("answers", 12, 1), ("stands",), ("propose", 8))
        self.assertEqual(told[3:], [[0, 0, 2], [0, 0], [0, 0, 1], [1, 8], [1, 1, 1]])

    def test_refused(self):
        for p, a in ((16, 0), (TOP, 2), (0, 3), (15, TOP), (16, 3), (TOP, TOP)):
            for setup in (FREE, HELD, full()):
                check_refused(self, setup, ("answers", p, a), -22)
        for p, a in ((0, 0), (15, 2)):
            check_refused(self, FREE, ("answers", p, a), -6)
            check_refused(self, full(), ("answers", p, a), -28)


class Press(unittest.TestCase):
    def test_first_of_the_shortest(self):
        told = ask(*HELD, ("press", 8), ("log", 0), ("log", 1), ("log", 2), ("stands",))
        self.assertEqual(told[3:], [[2, 6, 8], [6, 0, 0], [8, 1, 0], [-2], [1, 8]])
        self.assertEqual(last(*HELD, ("press", 10)), [2, 3, 10])

    def test_what_is_conceded_already(self):
        self.assertEqual(ask(*HELD, ("press", 14), ("log", 0), ("log", 1))[3:], [[1, 14], [14, 1, 0], [-2]])
        self.assertEqual(ask(*HELD, ("press", 8), ("press", 8), ("log", 2))[4:], [[1, 8], [8, 1, 0]])

    def test_known_to_be_so(self):
        self.assertEqual(ask(*HELD, ("press", 5), ("stands",))[3:], [[1, 5], [1, 4]])

    def test_rule_1(self):
        held = [("begin", 2, 1), ("rule", 1), ("lay", 14)]
        self.assertEqual(last(*held, ("press", 14)), [1, 14])
        self.assertEqual(last(*held, ("press", 5)), [1, 5])
        check_refused(self, held, ("press", 8), -33)

    def test_cannot(self):
        for t in (0, 1):
            check_refused(self, HELD, ("press", t), -33)
            check_refused(self, full(), ("press", t), -33)
        # World 3 is known and stands, so what isn't so there is never conceded.
        check_refused(self, [("begin", 2, 9), ("lay", 14)], ("press", 6), -33)

    def test_wrong_or_nothing_laid(self):
        for t in WRONG:
            for setup in (FREE, HELD, full()):
                check_refused(self, setup, ("press", t), -22)
        for t in (0, 15):
            check_refused(self, FREE, ("press", t), -6)

    def test_too_many(self):
        check_refused(self, full(), ("press", 14), -28)
        check_refused(self, full(), ("press", 8), -28)
        check_refused(self, full(7), ("press", 8), -28)
        self.assertEqual(ask(*full(7), ("press", 14), ("log", 7))[-2:], [[1, 14], [14, 1, 0]])
        self.assertEqual(ask(*full(6), ("press", 8), ("log", 7))[-2:], [[2, 6, 8], [8, 1, 0]])


class Strike(unittest.TestCase):
    def test_those_behind_are_one_less(self):
        three = HELD + [("answers", 10, 1), ("propose", 12), ("propose", 15)]
        told = ask(*three, ("strike", 0), ("log", 0), ("log", 1), ("log", 2), ("stands",))[6:]
        self.assertEqual(told, [[2], [12, 0, 0], [15, 1, 0], [-2], [1, 2]])
        told = ask(*three, ("strike", 2), ("log", 0), ("log", 1), ("log", 2))[6:]
        self.assertEqual(told, [[2], [10, 1, 1], [12, 0, 0], [-2]])
        told = ask(*three, ("strike", 1), ("log", 0), ("log", 1), ("stands",))[6:]
        self.assertEqual(told, [[2], [10, 1, 1], [15, 1, 0], [2, 10]])

    def test_what_is_left_is_judged_anew(self):
        told = ask(*HELD, ("propose", 10), ("propose", 12), ("log", 1), ("strike", 0), ("log", 0))[3:]
        self.assertEqual(told, [[0, 0, 1], [1, 1, 1], [12, 1, 0], [1], [12, 1, 1]])

    def test_makes_room(self):
        self.assertEqual(ask(*full(), ("strike", 3), ("propose", 14), ("propose", 14))[-3:], [[7], [1, 1, 3], [-28]])

    def test_refused(self):
        for i in (0, TOP):
            check_refused(self, FREE, ("strike", i), -6)
            check_refused(self, HELD, ("strike", i), -2)
        for i in (8, TOP):
            check_refused(self, full(), ("strike", i), -2)


class Amend(unittest.TestCase):
    def test_what_it_was(self):
        told = ask(*HELD, ("answers", 10, 2), ("amend", 0, 1), ("amend", 0, 0), ("amend", 0, 0), ("log", 0))[4:]
        self.assertEqual(told, [[2], [1], [0], [10, 0, 0]])

    def test_what_is_behind_is_judged_anew(self):
        told = ask(*HELD, ("propose", 10), ("propose", 12), ("amend", 0, 1), ("log", 0), ("log", 1), ("stands",))[5:]
        self.assertEqual(told, [[0], [10, 1, 1], [12, 1, 1], [1, 8]])

    def test_refused(self):
        for i, a in ((0, 1), (TOP, TOP), (0, 3)):
            check_refused(self, FREE, ("amend", i, a), -6)
            check_refused(self, HELD, ("amend", i, a), -2)
        for i, a in ((2, 1), (2, 3), (TOP, TOP)):
            check_refused(self, full(2), ("amend", i, a), -2)
        for i, a in ((0, 3), (1, 3), (1, TOP)):
            check_refused(self, full(2), ("amend", i, a), -22)


class Learn(unittest.TestCase):
    def test_how_many_are_known(self):
        told = ask(("begin", 3, 255), ("learn", 255), ("learn", 15), ("learn", 240), ("learn", 6), ("lay", 6), ("learn", 4))
        self.assertEqual(told, [[0], [8], [4], [-33], [2], [1], [1]])

    def test_changes_right_answers(self):
        told = ask(("begin", 2, 9), ("lay", 14), ("right", 10), ("learn", 1), ("right", 10), ("lay", 2))
        self.assertEqual(told[2:], [[2, 0], [1], [0, 0], [-17]])

    def test_stays_between(self):
        told = ask(("begin", 2, 9), ("lay", 14), ("learn", 8), ("finish",), ("lay", 14))
        self.assertEqual(told[1:], [[2], [1], [0, 0, 0], [1]])

    def test_refused(self):
        for setup in (FREE, HELD):
            for k in WRONG:
                check_refused(self, setup, ("learn", k), -22)
            for k in (0, 2, 14):
                check_refused(self, setup, ("learn", k), -33)


class Stock(unittest.TestCase):
    def test_how_many(self):
        for size in range(7):
            self.assertEqual(last(("begin", 2, 1), ("stock", [15] * size)), [size])

    def test_takes_the_place_of_the_last(self):
        told = ask(*HELD, ("from_stock", 1, 8), ("stock", [6]), ("from_stock", 1, 8), ("stock", []), ("from_stock", 1, 8))
        self.assertEqual(told[3:], [[1, 1], [1], [1, 0], [0], [-33]])

    def test_stays_between(self):
        self.assertEqual(last(*HELD, ("finish",), ("rule", 0), ("lay", 14), ("from_stock", 1, 8)), [1, 1])

    def test_refused(self):
        for setup in (FREE, HELD):
            for size in (7, 8, 9, 255):
                check_refused(self, setup, ("stock", [1] * size), -22)
            for stock in ([16], [TOP], [0, 15, 16], [1, 2, 3, 4, 5, 16], [TOP] * 255):
                check_refused(self, setup, ("stock", stock), -22)


class Finish(unittest.TestCase):
    def test_verdicts(self):
        self.assertEqual(last(*HELD, ("finish",)), [0, 0, 0])
        self.assertEqual(last(*HELD, ("propose", 10), ("propose", 12), ("finish",)), [0, 2, 0])
        self.assertEqual(last(*HELD, ("answers", 10, 1), ("propose", 12), ("finish",)), [1, 2, 1])
        self.assertEqual(last(*HELD, ("answers", 10, 1), ("answers", 10, 0), ("propose", 0), ("finish",)), [2, 3, 2])
        rule_1 = [("begin", 2, 1), ("rule", 1), ("lay", 14)]
        self.assertEqual(last(*rule_1, ("propose", 10), ("propose", 12), ("finish",)), [3, 2, 0])

    def test_it_is_over(self):
        told = ask(*HELD, ("propose", 10), ("finish",), ("stands",), ("finish",), ("log", 0), ("rule", 1), ("lay", 2))
        self.assertEqual(told[4:], [[0, 1, 0], [-6], [-6], [-6], [0], [0]])

    def test_refused(self):
        check_refused(self, FREE, ("finish",), -6)
        check_refused(self, HELD + [("finish",)], ("finish",), -6)


if __name__ == "__main__":
    unittest.main()
