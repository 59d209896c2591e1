"""What holds (promise 6), as far as these calls show it: all of one and two letters, some of three."""

import itertools
import random
import unittest

from tests.support import ask, last


def beginnings():
    """Letters, known worlds, what is laid down."""
    for letters in (1, 2):
        some = range(1, 2 ** 2 ** letters)
        for known, laid in itertools.product(some, some):
            yield letters, known, laid
    chance = random.Random(3)
    for k in range(30):
        yield 3, chance.randint(1, 255), chance.randint(1, 255)


def proposed(chance, letters, many):
    return [("propose", chance.randrange(2 ** 2 ** letters)) for i in range(many)]


def within(p, q):
    return p & q == p


class Holds(unittest.TestCase):
    def test_nobody_is_caught_who_answered_rightly(self):
        chance = random.Random(4)
        for letters, known, laid in beginnings():
            calls = [("begin", letters, known), ("lay", laid)] + proposed(chance, letters, 8)
            self.assertEqual(last(*calls, ("finish",)), [0, 8, 0], calls)

    def test_by_rule_1_only_where_it_is_known_not_to_be_so(self):
        chance = random.Random(5)
        caught = 0
        for letters, known, laid in beginnings():
            calls = [("begin", letters, known), ("rule", 1), ("lay", laid)] + proposed(chance, letters, 8)
            told = last(*calls, ("finish",))
            self.assertEqual(told[1:], [8, 0], calls)
            if known & laid:
                self.assertEqual(told[0], 0, calls)
            caught += told[0] == 3
        self.assertGreater(caught, 0)

    def test_what_can_be_made_conceded(self):
        for letters, known, laid in beginnings():
            begun = [("begin", letters, known), ("lay", laid)]
            for t in range(0, 2 ** 2 ** letters, 1 if letters < 3 else 7):
                can = t & laid != 0 and within(known & laid, t)
                conceded = last(*begun, ("concede", t))
                self.assertEqual(conceded[0] > 0, can, (begun, t))
                self.assertEqual(last(*begun, ("may", t))[0] // 2 % 2 == 1, can, (begun, t))

    def test_pressed_for_it_is_conceded_rightly_by_two_at_most(self):
        for letters, known, laid in beginnings():
            for rule in (0, 1):
                begun = [("begin", letters, known), ("rule", rule), ("lay", laid)]
                for t in range(0, 2 ** 2 ** letters, 1 if letters < 3 else 7):
                    told = ask(*begun, ("concede", t), ("press", t), ("log", 0), ("log", 1), ("finish",))[3:]
                    self.assertEqual(told[0], told[1])
                    if told[1] == [-33]:
                        continue
                    many = told[1][0]
                    self.assertIn(many, (1, 2))
                    self.assertEqual(told[1][-1], t)
                    self.assertEqual(told[1 + many], [t, 1, 0])
                    self.assertEqual(told[4][1:], [many, 0])

    def test_false_counts_those_conceded(self):
        for letters, known, laid in beginnings():
            if letters == 3:
                continue
            for rule, caught in itertools.product((0, 1), (0, 1)):
                begun = [("begin", letters, known), ("rule", rule), ("lay", laid)] + [("answers", 0, 1)] * caught
                never = [p for p in range(2 ** 2 ** letters) if p & known == 0]
                told = ask(*begun, ("false",), *[("concede", p) for p in never])[len(begun):]
                self.assertEqual(told[0], [sum(part[0] > 0 for part in told[1:])], begun)

    def test_by_rule_1_the_order_never_matters(self):
        chance = random.Random(6)
        for letters, known, laid in beginnings():
            begun = [("begin", letters, known), ("rule", 1), ("lay", laid)]
            row = proposed(chance, letters, 6)
            told = ask(*begun, *row, ("stands",))[3:]
            turned = ask(*begun, *row[::-1], ("stands",))[3:]
            self.assertEqual(told[-1], turned[-1])
            self.assertEqual([part[:2] for part in told[:-1]], [part[:2] for part in turned[:-1]][::-1])

    def test_a_row_is_answered_as_if_proposed(self):
        chance = random.Random(8)
        for letters, known, laid in beginnings():
            for rule in (0, 1):
                begun = [("begin", letters, known), ("rule", rule), ("lay", laid)]
                row = proposed(chance, letters, 8)
                told = ask(*begun, ("row", [call[1] for call in row]), *row)[3:]
                self.assertEqual(told[0][1:], [part[0] for part in told[1:]])


if __name__ == "__main__":
    unittest.main()
