"""right to reach (promise 3). Two letters are as in test_changes."""

import itertools
import unittest

from tests.support import TOP, ask, check_refused, last

HELD = [("begin", 2, 1), ("stock", [3, 6]), ("lay", 14)]
FREE = [("begin", 2, 1), ("stock", [3, 6])]
RULE_1 = [("begin", 2, 1), ("stock", [3, 6]), ("rule", 1), ("lay", 14)]
# World 3 is known, and stands; world 0 is known, too.
DOUBTFUL = [("begin", 2, 9), ("lay", 14)]
CAUGHT = HELD + [("answers", 1, 1)]
WRONG = (16, 255, TOP)


class Questions(unittest.TestCase):
    def check_order(self, name, propositions=WRONG):
        """-22 also where nothing is laid down, -6 only behind it."""
        for p in propositions:
            for setup in (FREE, HELD, RULE_1):
                check_refused(self, setup, (name, p), -22)
        for p in (0, 15):
            check_refused(self, FREE, (name, p), -6)
            check_refused(self, HELD + [("finish",)], (name, p), -6)


class Right(Questions):
    def test_told(self):
        for p, told in ((14, [1, 1]), (15, [1, 1]), (0, [0, 2]), (1, [0, 2]), (10, [0, 0]), (5, [1, 0])):
            self.assertEqual(last(*HELD, ("right", p)), told, p)
        self.assertEqual(last(*DOUBTFUL, ("right", 10)), [2, 0])

    def test_by_the_rule(self):
        self.assertEqual(last(*HELD, ("propose", 10), ("right", 12)), [1, 1])
        self.assertEqual(last(*RULE_1, ("propose", 10), ("right", 12)), [0, 0])

    def test_proposes_nothing(self):
        self.assertEqual(ask(*HELD, ("right", 10), ("log", 0), ("stands",))[4:], [[-2], [3, 14]])

    def test_refused(self):
        self.check_order("right")


class Row(Questions):
    def test_told(self):
        self.assertEqual(last(*HELD, ("row", [2, 4, 8])), [3, 0, 0, 1])
        self.assertEqual(last(*HELD, ("row", [8, 4, 2])), [3, 0, 0, 1])
        self.assertEqual(last(*HELD, ("row", [10, 12, 10])), [3, 0, 1, 0])
        self.assertEqual(last(*RULE_1, ("row", [2, 4, 8])), [3, 0, 0, 0])
        self.assertEqual(last(*DOUBTFUL, ("row", [10, 9, 10])), [3, 2, 1, 1])

    def test_from_now_on(self):
        self.assertEqual(last(*HELD, ("propose", 2), ("row", [4, 8])), [2, 0, 1])

    def test_empty_and_longest(self):
        self.assertEqual(last(*HELD, ("row", [])), [0])
        self.assertEqual(last(*HELD, ("row", [15] * 8)), [8] + [1] * 8)

    def test_however_many_there_would_be(self):
        told = ask(*HELD, *[("propose", 15)] * 8, ("row", [2, 4, 8, 8, 8, 8, 8, 8]), ("stands",))
        self.assertEqual(told[-2:], [[8, 0, 0, 1, 1, 1, 1, 1, 1], [3, 14]])

    def test_refused(self):
        lists = ([16], [TOP], [15, 16], [1] * 7 + [TOP], [1] * 9, [1] * 255, [TOP] * 255)
        for setup in (FREE, HELD):
            for listed in lists:
                check_refused(self, setup, ("row", listed), -22)
        for size in (0, 6, 7, 8):
            check_refused(self, FREE, ("row", [1] * size), -6)


class Stands(Questions):
    def test_told(self):
        self.assertEqual(last(*HELD, ("stands",)), [3, 14])
        self.assertEqual(last(*HELD, ("answers", 10, 2), ("stands",)), [3, 14])
        self.assertEqual(last(*HELD, ("answers", 10, 1), ("stands",)), [2, 10])
        self.assertEqual(last(*HELD, ("answers", 10, 0), ("stands",)), [1, 4])
        self.assertEqual(last(*CAUGHT, ("stands",)), [0, 0])

    def test_refused(self):
        check_refused(self, FREE, ("stands",), -6)
        check_refused(self, HELD + [("finish",)], ("stands",), -6)


class Log(Questions):
    def test_told(self):
        told = ask(*HELD, ("answers", 10, 1), ("propose", 12), ("answers", 15, 2), ("log", 0), ("log", 1), ("log", 2))
        self.assertEqual(told[6:], [[10, 1, 1], [12, 0, 0], [15, 2, 1]])

    def test_refused(self):
        for i in (0, 8, TOP):
            check_refused(self, FREE, ("log", i), -6)
            check_refused(self, HELD, ("log", i), -2)
        check_refused(self, HELD + [("propose", 1), ("propose", 1)], ("log", 2), -2)


class ConcedeDeny(Questions):
    def test_conceded(self):
        for t, told in (
            (14, [1, 14]), (15, [1, 15]), (5, [1, 5]), (10, [2, 3, 10]), (8, [2, 6, 8]), (0, [-33]), (1, [-33]),
        ):
            self.assertEqual(last(*HELD, ("concede", t)), told, t)

    def test_denied(self):
        for t, told in ((0, [1, 0]), (1, [1, 1]), (10, [1, 10]), (5, [2, 3, 5]), (14, [-33]), (15, [-33])):
            self.assertEqual(last(*HELD, ("deny", t)), told, t)

    def test_what_is_known_and_stands_stays(self):
        self.assertEqual(last(*DOUBTFUL, ("concede", 10)), [2, 4, 10])
        self.assertEqual(last(*DOUBTFUL, ("concede", 6)), [-33])
        self.assertEqual(last(*DOUBTFUL, ("deny", 10)), [-33])
        self.assertEqual(last(*DOUBTFUL, ("deny", 6)), [1, 6])
        self.assertEqual(last(*DOUBTFUL, ("deny", 7)), [2, 6, 7])

    def test_rule_1(self):
        for name, t, told in (
            ("concede", 14, [1, 14]), ("concede", 5, [1, 5]), ("concede", 10, [-33]), ("concede", 0, [-33]),
            ("deny", 10, [1, 10]), ("deny", 0, [1, 0]), ("deny", 5, [-33]), ("deny", 14, [-33]),
        ):
            self.assertEqual(last(*RULE_1, (name, t)), told, (name, t))

    def test_three_letters(self):
        held = [("begin", 3, 1), ("lay", 254)]
        self.assertEqual(last(*held, ("concede", 128)), [2, 126, 128])
        self.assertEqual(last(*held, ("concede", 255)), [1, 255])
        self.assertEqual(last(*held, ("deny", 129)), [2, 3, 129])

    def test_also_with_eight_answers(self):
        self.assertEqual(last(*HELD, *[("propose", 15)] * 8, ("concede", 8)), [2, 6, 8])

    def test_proposes_nothing(self):
        self.assertEqual(ask(*HELD, ("concede", 8), ("deny", 5), ("log", 0), ("stands",))[5:], [[-2], [3, 14]])

    def test_refused(self):
        self.check_order("concede")
        self.check_order("deny")
        check_refused(self, HELD, ("concede", 0), -33)
        check_refused(self, HELD, ("deny", 15), -33)


class May(Questions):
    def test_told(self):
        for t, told in ((0, 1), (1, 1), (14, 2), (15, 2), (10, 3), (5, 3)):
            self.assertEqual(last(*HELD, ("may", t)), [told], t)
        for t, told in ((10, 6), (6, 1), (2, 1), (7, 5), (8, 6), (9, 2), (0, 1), (15, 2)):
            self.assertEqual(last(*DOUBTFUL, ("may", t)), [told], t)

    def test_rule_1(self):
        for t, told in ((0, 1), (14, 2), (10, 1), (5, 2)):
            self.assertEqual(last(*RULE_1, ("may", t)), [told], t)
        self.assertEqual(last(("begin", 2, 9), ("rule", 1), ("lay", 14), ("may", 10)), [4])

    def test_caught(self):
        for t in (0, 1, 10, 15):
            self.assertEqual(last(*CAUGHT, ("may", t)), [2])

    def test_refused(self):
        self.check_order("may")


class KnownFalse(Questions):
    def test_told(self):
        self.assertEqual(last(*HELD, ("false",)), [7])
        self.assertEqual(last(*RULE_1, ("false",)), [1])
        self.assertEqual(last(*CAUGHT, ("false",)), [8])
        self.assertEqual(last(*DOUBTFUL, ("false",)), [0])
        self.assertEqual(last(("begin", 3, 1), ("lay", 254), ("false",)), [127])
        self.assertEqual(last(("begin", 3, 1), ("lay", 128), ("false",)), [64])
        self.assertEqual(last(("begin", 1, 3), ("lay", 2), ("false",)), [0])

    def test_refused(self):
        check_refused(self, FREE, ("false",), -6)


class FromStock(Questions):
    def test_told(self):
        for a, t, told in (
            (0, 10, [0]), (1, 10, [1, 0]), (1, 8, [1, 1]), (2, 10, [-33]), (1, 14, [0]), (0, 14, [-33]), (1, 0, [-33]),
        ):
            self.assertEqual(last(*HELD, ("from_stock", a, t)), told, (a, t))

    def test_earlier_places_first(self):
        held = [("begin", 2, 1), ("lay", 14)]
        self.assertEqual(last(*held, ("stock", [2, 4]), ("from_stock", 1, 8)), [2, 0, 1])
        self.assertEqual(last(*held, ("stock", [4, 2]), ("from_stock", 1, 8)), [2, 0, 1])
        self.assertEqual(last(*held, ("stock", [15, 4, 15, 2, 2]), ("from_stock", 1, 8)), [2, 1, 3])
        self.assertEqual(last(*held, ("stock", [15, 6, 6]), ("from_stock", 1, 8)), [1, 1])

    def test_shorter_ones_first(self):
        held = [("begin", 2, 1), ("lay", 14)]
        self.assertEqual(last(*held, ("stock", [2, 4, 6]), ("from_stock", 1, 8)), [1, 2])

    def test_all_six(self):
        stock = [2, 4, 8, 16, 32, 64]
        held = [("begin", 3, 1), ("stock", stock), ("lay", 254)]
        self.assertEqual(last(*held, ("from_stock", 1, 128)), [6, 0, 1, 2, 3, 4, 5])

    def test_doubted(self):
        self.assertEqual(last(*DOUBTFUL, ("from_stock", 2, 10)), [0])
        self.assertEqual(last(*DOUBTFUL, ("stock", [9]), ("from_stock", 1, 10)), [1, 0])

    def test_rule_1(self):
        for a, t, told in ((0, 10, [0]), (1, 10, [-33]), (1, 5, [0]), (1, 8, [-33])):
            self.assertEqual(last(*RULE_1, ("from_stock", a, t)), told, (a, t))

    def test_refused(self):
        for a, t in ((3, 0), (TOP, 15), (0, 16), (2, TOP), (3, 16), (TOP, TOP)):
            check_refused(self, FREE, ("from_stock", a, t), -22)
            check_refused(self, HELD, ("from_stock", a, t), -22)
        for a, t in ((0, 0), (2, 15)):
            check_refused(self, FREE, ("from_stock", a, t), -6)
        check_refused(self, HELD, ("from_stock", 2, 10), -33)


class Reach(Questions):
    def check(self, many, *calls):
        self.assertEqual(last(*calls, ("reach",)), [many], calls)

    def test_told(self):
        self.check(3, *HELD)
        self.check(1, *CAUGHT)
        self.check(4, *HELD, ("stock", [2, 4]))
        self.check(2, *DOUBTFUL, ("stock", [9]))
        self.check(1, *DOUBTFUL, ("stock", [10]))
        self.check(2, ("begin", 1, 1), ("stock", [2]), ("lay", 3))
        self.check(1, ("begin", 1, 1), ("stock", [2]), ("lay", 2))

    def test_empty_stock(self):
        self.check(1, *HELD, ("stock", []))
        self.check(1, ("begin", 3, 255), ("lay", 255))

    def test_by_rule_0_whatever_the_rule_is(self):
        self.check(3, *RULE_1)
        # By rule 1 all six would be denied, and nothing stand; by rule 0 something always does.
        six = [1, 2, 4, 8, 3, 12]
        for rule in (0, 1):
            self.check(7, ("begin", 2, 1), ("rule", rule), ("stock", [2, 4, 8, 2, 4, 8]), ("lay", 14))
            self.check(8, ("begin", 2, 1), ("rule", rule), ("stock", six), ("lay", 15))

    def test_the_rule_stays(self):
        self.assertEqual(ask(*RULE_1, ("propose", 10), ("reach",), ("right", 12))[5:], [[1], [0, 0]])

    def test_from_what_stands_now(self):
        self.check(3, *HELD, ("answers", 15, 2))
        self.check(1, *HELD, ("propose", 3))
        self.check(2, *HELD, ("stock", [2, 4]), ("propose", 2))

    def test_all_six(self):
        self.check(64, ("begin", 3, 1), ("stock", [2, 4, 8, 16, 32, 64]), ("lay", 254))
        self.check(1, ("begin", 3, 255), ("stock", [2, 4, 8, 16, 32, 64]), ("lay", 254))

    def test_by_walking_through_rows(self):
        for known, laid, stock in ((1, 14, [2, 4, 8]), (1, 14, [3, 6]), (9, 14, [7, 13, 11]), (4, 11, [5, 6, 12])):
            held = [("begin", 2, known), ("lay", laid)]
            found = set()
            for size in range(5):
                for row in itertools.product(stock, repeat=size):
                    found.add(tuple(last(*held, *[("propose", p) for p in row], ("stands",))))
            self.check(len(found), *held, ("stock", stock))

    def test_refused(self):
        check_refused(self, FREE, ("reach",), -6)
        check_refused(self, HELD + [("finish",)], ("reach",), -6)


if __name__ == "__main__":
    unittest.main()
