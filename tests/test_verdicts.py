"""bad to verdict (promise 4). Two letters are as in test_changes."""

import itertools
import unittest

from tests.support import JUDGED, TOP, ask, check_refused, last

# Known is world 0 alone; what is laid down is known not to be so.
FREE = [("begin", 2, 1), ("stock", [3, 6])]
HELD = FREE + [("lay", 14)]
RULE_1 = FREE + [("rule", 1), ("lay", 14)]
# What is laid down is known neither way, and known to be so.
NEITHER = [("begin", 2, 9), ("lay", 14)]
SO = [("begin", 2, 10), ("lay", 14)]
# 10 and 12 should have been denied; behind them world 3 alone stands, and 8 follows.
SOME_BAD = HELD + [("answers", 10, 1), ("answers", 12, 1), ("propose", 8)]
# Rightly answered, each of them, by what was laid down alone: and nothing stands.
CAUGHT_RIGHTLY = RULE_1 + [("propose", 10), ("propose", 12)]
EIGHT_RIGHT = HELD + [("propose", 15)] * 8
EIGHT_BAD = HELD + [("answers", 15, 2)] * 8
OVER = SOME_BAD + [("finish",)]


class Judged(unittest.TestCase):
    def check(self, held, **wanted):
        """What these calls answer; a number by itself is a refusal, or all that's told."""
        for name, told in wanted.items():
            told = told if isinstance(told, list) else [told]
            self.assertEqual(last(*held, (name,)), told, (held, name))

    def check_kth(self, held, many, name, listed):
        """How many there are; then all of them, what's behind the last, and the greatest that can be asked for."""
        self.assertEqual(last(*held, (many,)), [len(listed)], held)
        told = [last(*held, (name, k)) for k in range(len(listed))]
        self.assertEqual(told, [[p] for p in listed], held)
        for k in (len(listed), len(listed) + 1, 255, 256, TOP):
            check_refused(self, held, (name, k), -33)


class NothingLaid(Judged):
    def test_refused(self):
        numbers = {"laid": (0,), "known": (0,), "clash": (3, 5)}
        for name in JUDGED:
            for setup in (FREE, OVER, HELD + [("back",)]):
                check_refused(self, setup, (name, *numbers.get(name, ())), -6)
        for name in ("laid", "known"):
            check_refused(self, FREE, (name, TOP), -6)

    def test_again_laid_down(self):
        self.check(OVER + [("lay", 14)], bad=0, mended=0, least=0, other=0, verdict=0, laids=15, knowns=15)


class NoAnswers(Judged):
    def test_told(self):
        for held in (HELD, RULE_1, NEITHER, SO):
            self.check(held, bad=0, first=-33, caught=-33, mended=0, least=0, other=0, verdict=0)
            self.check_kth(held, "laids", "laid", range(1, 16))
            self.check_kth(held, "knowns", "known", range(1, 16))


class Bad(Judged):
    def test_told(self):
        self.check(SOME_BAD, bad=[2, 0, 1])
        self.check(HELD + [("propose", 10)], bad=0)
        self.check(HELD + [("answers", 10, 2)], bad=[1, 0])
        self.check(HELD + [("propose", 10), ("answers", 12, 2), ("propose", 4), ("answers", 8, 1)], bad=[2, 1, 3])
        self.check(EIGHT_RIGHT, bad=0)
        self.check(EIGHT_BAD, bad=[8, 0, 1, 2, 3, 4, 5, 6, 7])

    def test_by_the_rule(self):
        answered = [("answers", 10, 0), ("answers", 12, 0)]
        self.check(HELD + answered, bad=[1, 1])
        self.check(RULE_1 + answered, bad=0)
        answered = [("answers", 10, 0), ("answers", 12, 1)]
        self.check(HELD + answered, bad=0)
        self.check(RULE_1 + answered, bad=[1, 1])

    def test_by_what_is_known_now(self):
        self.check(NEITHER + [("propose", 10)], bad=0)
        self.check(NEITHER + [("propose", 10), ("learn", 1)], bad=[1, 0])
        self.check(NEITHER + [("answers", 10, 0), ("learn", 1)], bad=0)

    def test_one_and_three_letters(self):
        self.check([("begin", 1, 3), ("lay", 3), ("propose", 1), ("answers", 2, 1), ("answers", 1, 2)], bad=[2, 1, 2])
        self.check([("begin", 3, 1), ("lay", 254), ("propose", 15), ("answers", 240, 1)], bad=[1, 1])


class First(Judged):
    def test_told(self):
        self.check(SOME_BAD, first=[0, 0])
        self.check(HELD + [("propose", 10), ("answers", 12, 0), ("answers", 12, 2)], first=[1, 1])
        self.check(NEITHER + [("propose", 14), ("propose", 0), ("answers", 10, 1)], first=[2, 2])
        self.check(EIGHT_BAD, first=[0, 1])
        self.check(HELD + [("propose", 15)] * 7 + [("answers", 15, 0)], first=[7, 1])
        self.check(RULE_1 + [("propose", 10), ("answers", 12, 1)], first=[1, 0])

    def test_the_right_one_as_it_was_given(self):
        # Behind the bad answer 12 is against what stands; had it been right, 12 would have followed.
        answered = [("answers", 10, 1), ("answers", 12, 0), ("answers", 12, 2)]
        self.check(HELD + answered, bad=[2, 0, 2], first=[0, 0], mended=[3, 0, 1, 1])
        self.check(HELD + answered + [("amend", 0, 2)], first=[0, 0])
        self.check(HELD + answered + [("strike", 0)], first=[1, 0])

    def test_all_is_right(self):
        for held in (HELD, RULE_1, EIGHT_RIGHT, CAUGHT_RIGHTLY, NEITHER + [("propose", 10)]):
            check_refused(self, held, ("first",), -33)


class Caught(Judged):
    def test_told(self):
        self.check(HELD + [("answers", 1, 1)], caught=1)
        self.check(HELD + [("answers", 10, 1), ("answers", 10, 0)], caught=2)
        self.check(HELD + [("answers", 10, 1), ("answers", 10, 0), ("propose", 15), ("propose", 0)], caught=2)
        self.check(CAUGHT_RIGHTLY, caught=2)
        self.check(CAUGHT_RIGHTLY + [("propose", 14)], caught=2)
        self.check(EIGHT_RIGHT[:-1] + [("answers", 15, 0)], caught=8)
        self.check([("begin", 1, 1), ("lay", 2), ("answers", 2, 0)], caught=1)
        self.check([("begin", 3, 1), ("lay", 255), ("propose", 254), ("answers", 254, 1)], caught=2)

    def test_something_stands(self):
        for held in (HELD, SOME_BAD, EIGHT_RIGHT, EIGHT_BAD, RULE_1 + [("propose", 10)]):
            check_refused(self, held, ("caught",), -33)
        check_refused(self, HELD + [("answers", 1, 1), ("amend", 0, 2)], ("caught",), -33)


class Mended(Judged):
    def test_told(self):
        self.check(SOME_BAD, mended=[3, 0, 1, 0])
        self.check(RULE_1 + [("answers", 10, 1), ("answers", 12, 1), ("answers", 8, 1)], mended=[3, 0, 0, 0])
        self.check(EIGHT_RIGHT, mended=[8] + [1] * 8)
        self.check(EIGHT_BAD, mended=[8] + [1] * 8)
        self.check(NEITHER + [("answers", 10, 0), ("answers", 9, 0), ("answers", 10, 0)], mended=[3, 2, 1, 1])

    def test_what_is_right_stays(self):
        self.check(HELD + [("propose", 10), ("propose", 12), ("propose", 1)], mended=[3, 0, 1, 0])
        self.check(CAUGHT_RIGHTLY + [("propose", 14)], mended=[3, 0, 0, 1])

    def test_one_who_was_caught(self):
        # Once nothing stood everything was rightly conceded; as it should have been something stands.
        self.check(HELD + [("answers", 1, 1), ("propose", 0), ("propose", 1)], bad=[1, 0], mended=[3, 0, 0, 0])


class Least(Judged):
    def test_told(self):
        self.check(SOME_BAD, least=[3, 0, 1, 2])
        self.check(EIGHT_RIGHT, least=0)
        self.check(EIGHT_BAD, least=[8, 0, 1, 2, 3, 4, 5, 6, 7])
        self.check(HELD + [("answers", 10, 1), ("answers", 10, 0)], bad=[2, 0, 1], least=[1, 0])
        self.check(CAUGHT_RIGHTLY, least=0)
        self.check(RULE_1 + [("answers", 10, 1), ("propose", 12), ("answers", 14, 2)], least=[2, 0, 2])

    def test_lesser_number_of_several(self):
        # Each of the two is right by itself, but not the second behind the first.
        self.check(HELD + [("answers", 10, 0), ("answers", 12, 0)], bad=[1, 1], least=[1, 0])
        self.check(HELD + [("answers", 10, 0), ("answers", 12, 0), ("answers", 1, 1)], bad=[1, 1], least=[2, 0, 2])
        self.check(HELD + [("answers", 15, 2), ("answers", 10, 0), ("answers", 12, 0)], bad=[2, 0, 2], least=[2, 0, 1])

    def test_fewer_come_before_a_lesser_number(self):
        self.check(HELD + [("answers", 10, 0), ("answers", 10, 0), ("answers", 12, 0)], bad=[1, 2], least=[1, 2])
        self.check(HELD + [("answers", 10, 0), ("answers", 12, 0), ("answers", 12, 0)], bad=[2, 1, 2], least=[1, 0])

    def test_three_letters(self):
        held = [("begin", 3, 1), ("lay", 254)]
        # 2 to 64 are rightly denied till one world is left; by then 128 follows.
        six = [("answers", p, 0) for p in (2, 4, 8, 16, 32, 64)]
        self.check(held + six + [("answers", 128, 0)], bad=[1, 6], least=[1, 0])
        self.check(held + six + [("answers", 128, 0), ("answers", 255, 0)], least=[2, 0, 7])


class Laids(Judged):
    def test_one_answer(self):
        denied = HELD + [("propose", 10)]
        self.check_kth(denied, "laids", "laid", [1, 3, 4, 5, 6, 7, 9, 11, 12, 13, 14, 15])
        self.check_kth(HELD + [("answers", 10, 1)], "laids", "laid", [2, 8, 10])
        self.check_kth(HELD + [("answers", 10, 2)], "laids", "laid", [])

    def test_several_answers(self):
        self.check_kth(SOME_BAD, "laids", "laid", [8])
        # By rule 0 the second follows of what stands behind the first, or is against it, or is denied.
        denied = [("answers", 10, 0), ("answers", 12, 0)]
        self.check_kth(HELD + denied, "laids", "laid", [1, 3, 5, 7, 9, 11, 13, 15])
        self.check_kth(RULE_1 + denied, "laids", "laid", [1, 3, 5, 6, 7, 9, 11, 13, 14, 15])

    def test_eight_answers(self):
        self.check_kth(EIGHT_RIGHT, "laids", "laid", range(1, 16))
        self.check_kth(EIGHT_BAD, "laids", "laid", [])

    def test_one_and_three_letters(self):
        self.check_kth([("begin", 1, 1), ("lay", 2), ("propose", 1)], "laids", "laid", [2])
        held = [("begin", 3, 1), ("lay", 254), ("propose", 15)]
        told = ask(*held, ("laids",), *[("laid", k) for k in (0, 14, 15, 238, 239, 240, TOP)])[3:]
        self.assertEqual(told, [[240], [1], [15], [17], [254], [255], [-33], [-33]])

    def test_what_was_laid_down_stays(self):
        told = ask(*SOME_BAD, ("laids",), ("laid", 0), ("stands",), ("bad",))[6:]
        self.assertEqual(told, [[1], [8], [1, 8], [2, 0, 1]])


class Knowns(Judged):
    def test_one_answer(self):
        self.check_kth(HELD + [("propose", 10)], "knowns", "known", [1, 4, 5])
        self.check_kth(HELD + [("answers", 10, 1)], "knowns", "known", [2, 8, 10])
        self.check_kth(HELD + [("answers", 10, 2)], "knowns", "known", [3, 6, 7, 9, 11, 12, 13, 14, 15])

    def test_also_worlds_that_are_not_known(self):
        self.check_kth(SO + [("answers", 10, 0)], "knowns", "known", [1, 4, 5])

    def test_several_answers(self):
        self.check_kth(SOME_BAD, "knowns", "known", [8])
        # By rule 0 that 12 is so follows once 10 is denied; by rule 1 it must be known not to be so.
        denied = [("answers", 10, 0), ("answers", 12, 0)]
        self.check_kth(HELD + denied, "knowns", "known", [])
        self.check_kth(RULE_1 + denied, "knowns", "known", [1])

    def test_eight_answers(self):
        self.check_kth(EIGHT_RIGHT, "knowns", "known", range(1, 16))
        self.check_kth(EIGHT_BAD, "knowns", "known", [])

    def test_one_and_three_letters(self):
        self.check_kth([("begin", 1, 1), ("lay", 2), ("propose", 1)], "knowns", "known", [1, 2, 3])
        self.check_kth([("begin", 1, 1), ("lay", 3), ("propose", 1)], "knowns", "known", [1])
        self.check_kth([("begin", 3, 1), ("lay", 254), ("propose", 15)], "knowns", "known", range(1, 16))

    def test_what_is_known_stays(self):
        told = ask(*SOME_BAD, ("knowns",), ("known", 0), ("finish",), ("lay", 14), ("right", 10))[6:]
        self.assertEqual(told, [[1], [8], [1, 3, 2], [0], [0, 0]])


class Other(Judged):
    def test_told(self):
        self.check(SOME_BAD, other=[3, 0, 1, 2])
        self.check(CAUGHT_RIGHTLY, bad=0, other=[1, 1])
        self.check(HELD + [("propose", 10), ("propose", 12)], bad=0, other=[1, 1])
        self.check(HELD + [("answers", 10, 0), ("answers", 12, 0)], bad=[1, 1], other=0)
        self.check(EIGHT_RIGHT, other=0)
        self.check(EIGHT_BAD, other=[8, 0, 1, 2, 3, 4, 5, 6, 7])

    def test_the_rule_stays(self):
        for held in (HELD, RULE_1):
            calls = [("propose", 10), ("other",), ("right", 12)]
            self.assertEqual(last(*held, *calls), last(*held, calls[0], calls[2]))

    def test_as_if_the_rule_had_been_the_other(self):
        answered = [("answers", 3, 1), ("answers", 2, 1), ("answers", 4, 0), ("answers", 12, 2)]
        for setup, turned in ((HELD, RULE_1), (RULE_1, HELD)):
            self.assertEqual(last(*setup, *answered, ("other",)), last(*turned, *answered, ("bad",)))


class Clash(Judged):
    def test_told(self):
        for p, q, told in (
            (3, 5, 1), (3, 14, 1), (5, 9, 1), (3, 13, 1), (14, 13, 1), (3, 3, 0), (3, 7, 0), (14, 15, 0), (15, 3, 0),
            (10, 14, 0), (10, 5, 0), (0, 15, 0), (0, 0, 0), (1, 14, 0), (8, 6, 0),
        ):
            for held in (HELD, RULE_1, SOME_BAD, CAUGHT_RIGHTLY, HELD + [("answers", 1, 1)]):
                self.assertEqual(last(*held, ("clash", p, q)), [told], (held, p, q))
                self.assertEqual(last(*held, ("clash", q, p)), [told], (held, q, p))

    def test_that_both_are_so_is_doubted(self):
        held = [("begin", 2, 3), ("lay", 12)]
        told = ask(*held, ("right", 13), ("right", 7), ("right", 5), ("clash", 13, 7))[2:]
        self.assertEqual(told, [[1, 1], [1, 0], [2, 0], [0]])
        self.assertEqual(ask(*held, ("clash", 12, 7), ("clash", 7, 11), ("clash", 12, 13))[2:], [[1], [1], [0]])

    def test_wrong_propositions(self):
        for p, q in ((16, 0), (0, 16), (16, 16), (TOP, 3), (3, TOP), (TOP, TOP)):
            for setup in (FREE, HELD, RULE_1, OVER, CAUGHT_RIGHTLY):
                check_refused(self, setup, ("clash", p, q), -22)
        for letters, most in ((1, 3), (2, 15), (3, 255)):
            told = ask(("begin", letters, 1), ("lay", most), ("clash", most, most + 1), ("clash", most, most))[2:]
            self.assertEqual(told, [[-22], [0]])


class Clashes(Judged):
    def test_told(self):
        for held in (HELD, RULE_1, SOME_BAD, CAUGHT_RIGHTLY, EIGHT_BAD):
            self.check(held, clashes=12)
        self.check([("begin", 2, 3), ("lay", 12)], clashes=3)
        self.check([("begin", 1, 1), ("lay", 2)], clashes=0)
        self.check([("begin", 3, 1), ("lay", 254)], clashes=1092)

    def test_only_where_it_is_known_not_to_be_so(self):
        for known, laid in itertools.product(range(1, 16), range(1, 16)):
            if known & laid:
                self.check([("begin", 2, known), ("lay", laid)], clashes=0)
        for held in (NEITHER, SO):
            self.check(held, clashes=0)

    def test_counts_the_pairs(self):
        for known, laid in ((1, 14), (3, 12), (9, 6), (1, 6), (5, 2)):
            held = [("begin", 2, known), ("lay", laid)]
            pairs = [("clash", p, q) for p, q in itertools.combinations(range(16), 2)]
            told = [ask(*held, *pairs[i:i + 40])[2:] for i in range(0, len(pairs), 40)]
            self.check(held, clashes=sum(part[0] for parts in told for part in parts))


class Verdict(Judged):
    def test_told(self):
        for held in (HELD, RULE_1, EIGHT_RIGHT, NEITHER + [("propose", 10)], HELD + [("propose", 10), ("propose", 12)]):
            self.check(held, verdict=0)
        for held in (SOME_BAD, EIGHT_BAD, NEITHER + [("answers", 10, 1)], RULE_1 + [("answers", 10, 2)]):
            self.check(held, verdict=1)
        for held in (HELD + [("answers", 1, 1)], SOME_BAD + [("answers", 8, 0)], CAUGHT_RIGHTLY + [("answers", 8, 1)]):
            self.check(held, verdict=2)
        self.check(CAUGHT_RIGHTLY, verdict=3)
        self.check([("begin", 3, 128), ("rule", 1), ("lay", 3), ("propose", 1), ("propose", 2)], verdict=3)

    def test_as_finish_tells_it(self):
        for held in (HELD, SOME_BAD, CAUGHT_RIGHTLY, EIGHT_BAD, HELD + [("answers", 1, 1)]):
            told = ask(*held, ("verdict",), ("finish",))[-2:]
            self.assertEqual(told[0], told[1][:1])


if __name__ == "__main__":
    unittest.main()
