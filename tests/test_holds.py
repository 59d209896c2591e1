"""What holds (promise 6): all of one and two letters, some of three; and behind drawn lines of calls."""

import itertools
import random
import unittest

from tests.support import ask, drawn_line, last


def beginnings():
    """Letters, known worlds, what is laid down."""
    for letters in (1, 2):
        some = range(1, 2 ** 2 ** letters)
        for known, laid in itertools.product(some, some):
            yield letters, known, laid
    chance = random.Random(3)
    for k in range(30):
        yield 3, chance.randint(1, 255), chance.randint(1, 255)


def proposed(chance, letters, many):
    return [("propose", chance.randrange(2 ** 2 ** letters)) for i in range(many)]


def within(p, q):
    return p & q == p


class Holds(unittest.TestCase):
    def test_nobody_is_caught_who_answered_rightly(self):
        chance = random.Random(4)
        for letters, known, laid in beginnings():
            calls = [("begin", letters, known), ("lay", laid)] + proposed(chance, letters, 8)
            self.assertEqual(last(*calls, ("finish",)), [0, 8, 0], calls)

    def test_by_rule_1_only_where_it_is_known_not_to_be_so(self):
        chance = random.Random(5)
        caught = 0
        for letters, known, laid in beginnings():
            calls = [("begin", letters, known), ("rule", 1), ("lay", laid)] + proposed(chance, letters, 8)
            told = last(*calls, ("finish",))
            self.assertEqual(told[1:], [8, 0], calls)
            if known & laid:
                self.assertEqual(told[0], 0, calls)
            caught += told[0] == 3
        self.assertGreater(caught, 0)

    def test_what_can_be_made_conceded(self):
        for letters, known, laid in beginnings():
            begun = [("begin", letters, known), ("lay", laid)]
            for t in range(0, 2 ** 2 ** letters, 1 if letters < 3 else 7):
                can = t & laid != 0 and within(known & laid, t)
                conceded = last(*begun, ("concede", t))
                self.assertEqual(conceded[0] > 0, can, (begun, t))
                self.assertEqual(last(*begun, ("may", t))[0] // 2 % 2 == 1, can, (begun, t))

    def test_pressed_for_it_is_conceded_rightly_by_two_at_most(self):
        for letters, known, laid in beginnings():
            for rule in (0, 1):
                begun = [("begin", letters, known), ("rule", rule), ("lay", laid)]
                for t in range(0, 2 ** 2 ** letters, 1 if letters < 3 else 7):
                    told = ask(*begun, ("concede", t), ("press", t), ("log", 0), ("log", 1), ("finish",))[3:]
                    self.assertEqual(told[0], told[1])
                    if told[1] == [-33]:
                        continue
                    many = told[1][0]
                    self.assertIn(many, (1, 2))
                    self.assertEqual(told[1][-1], t)
                    self.assertEqual(told[1 + many], [t, 1, 0])
                    self.assertEqual(told[4][1:], [many, 0])

    def test_false_counts_those_conceded(self):
        for letters, known, laid in beginnings():
            if letters == 3:
                continue
            for rule, caught in itertools.product((0, 1), (0, 1)):
                begun = [("begin", letters, known), ("rule", rule), ("lay", laid)] + [("answers", 0, 1)] * caught
                never = [p for p in range(2 ** 2 ** letters) if p & known == 0]
                told = ask(*begun, ("false",), *[("concede", p) for p in never])[len(begun):]
                self.assertEqual(told[0], [sum(part[0] > 0 for part in told[1:])], begun)

    def test_by_rule_1_the_order_never_matters(self):
        chance = random.Random(6)
        for letters, known, laid in beginnings():
            begun = [("begin", letters, known), ("rule", 1), ("lay", laid)]
            row = proposed(chance, letters, 6)
            told = ask(*begun, *row, ("stands",))[3:]
            turned = ask(*begun, *row[::-1], ("stands",))[3:]
            self.assertEqual(told[-1], turned[-1])
            self.assertEqual([part[:2] for part in told[:-1]], [part[:2] for part in turned[:-1]][::-1])

    def test_a_row_is_answered_as_if_proposed(self):
        chance = random.Random(8)
        for letters, known, laid in beginnings():
            for rule in (0, 1):
                begun = [("begin", letters, known), ("rule", rule), ("lay", laid)]
                row = proposed(chance, letters, 8)
                told = ask(*begun, ("row", [call[1] for call in row]), *row)[3:]
                self.assertEqual(told[0][1:], [part[0] for part in told[1:]])


def drawn(seed, many=250):
    """Lines of at most 20 calls, behind which others find room, and what state tells at their ends."""
    chance = random.Random(seed)
    for k in range(many):
        letters = 1 + k % 3
        calls = drawn_line(chance, letters, 8, 20)
        told = last(*calls, ("state",))
        if told[0] < 0:
            continue
        if told[3] == 0:
            calls.append(("lay", chance.randint(1, 2 ** 2 ** told[0] - 1)))
        yield chance, calls, last(*calls, ("state",))


def logged(calls, many):
    """The answers given: what was proposed, what it was answered, 1 if that's bad."""
    return ask(*calls, *[("log", i) for i in range(many)])[len(calls):]


class HoldsBehindLines(unittest.TestCase):
    def test_caught_rightly_only_by_rule_1_what_is_known_not_to_be_so(self):
        seen = set()
        for chance, calls, state in drawn(11, 400):
            verdict = last(*calls, ("verdict",))[0]
            seen.add(verdict)
            if verdict == 3:
                self.assertEqual((state[2], state[1] & state[3]), (1, 0), calls)
        self.assertEqual(seen, {0, 1, 2, 3})

    def test_verdict_is_by_bad_and_caught(self):
        for chance, calls, state in drawn(12):
            told = ask(*calls, ("verdict",), ("bad",), ("first",), ("caught",), ("stands",), ("finish",))[len(calls):]
            verdict, bad, first, caught, stands, finish = told
            self.assertEqual(verdict[0] in (1, 2), bad[0] > 0)
            self.assertEqual(verdict[0] in (2, 3), stands == [0, 0])
            self.assertEqual(first[0], bad[1] if bad[0] > 0 else -33)
            self.assertEqual(caught != [-33], stands == [0, 0])
            self.assertEqual(finish, [verdict[0], state[4], bad[0]])

    def test_pressed_for(self):
        pressed = 0
        for chance, calls, state in drawn(13):
            for t in [chance.randrange(2 ** 2 ** state[0]) for k in range(4)]:
                told = ask(*calls, ("bad",), ("press", t), ("bad",), ("right", t))[len(calls):]
                if told[1][0] < 0:
                    self.assertEqual(told[0], told[2])
                    continue
                pressed += 1
                self.assertLessEqual(told[1][0], 2)
                self.assertEqual(told[1][0], len(told[1]) - 1)
                self.assertEqual(told[0], told[2])
                self.assertEqual(told[3][0], 1)
                self.assertEqual(logged(calls + [("press", t)], state[4] + told[1][0])[-1], [t, 1, 0])
        self.assertGreater(pressed, 100)

    def test_what_can_be_made_conceded(self):
        for chance, calls, state in drawn(14):
            stands = last(*calls, ("stands",))[1]
            if state[2] == 1 or stands == 0:
                continue
            for t in [chance.randrange(2 ** 2 ** state[0]) for k in range(4)]:
                can = t & stands != 0 and within(state[1] & stands, t)
                self.assertEqual(last(*calls, ("concede", t))[0] > 0, can, (calls, t))
                self.assertEqual(last(*calls, ("may", t))[0] & 2 == 2, can, (calls, t))

    def test_nothing_is_bad_just_if_all_was_answered_so(self):
        seen = set()
        for chance, calls, state in drawn(15):
            told = ask(*calls, ("mended",), ("bad",))[len(calls):]
            given = [part[1] for part in logged(calls, state[4])]
            self.assertEqual(told[0][0], state[4])
            self.assertEqual(told[0][1:] == given, told[1] == [0], calls)
            seen.add(told[1] == [0])
            amends = [("amend", i, a) for i, a in enumerate(told[0][1:])]
            self.assertEqual(last(*calls, *amends, ("bad",)), [0], calls)
            self.assertEqual(last(*calls, *amends, ("mended",)), told[0], calls)
        self.assertEqual(seen, {True, False})

    def test_by_rule_1_the_order_never_matters(self):
        for chance, calls, state in drawn(16):
            given = [("answers", p, a) for p, a, bad in logged(calls, state[4])]
            begun = [("begin", *state[:2]), ("rule", 1), ("lay", state[3])]
            order = chance.sample(range(len(given)), len(given))
            asked = [("stands",), ("verdict",), ("laids",), ("knowns",), ("bad",), ("least",), ("mended",)]
            told = ask(*begun, *given, *asked)[-7:]
            turned = ask(*begun, *[given[i] for i in order], *asked)[-7:]
            self.assertEqual(told[:4], turned[:4])
            self.assertEqual(told[4][1:], sorted(order[i] for i in turned[4][1:]))
            self.assertEqual(told[5][1:], sorted(order[i] for i in turned[5][1:]))
            self.assertEqual([told[6][1 + i] for i in order], turned[6][1:])
            # By rule 1 the bad ones are just those that are to be struck out.
            self.assertEqual(told[4], told[5])

    def test_what_is_struck_out_leaves_all_right(self):
        struck = 0
        for chance, calls, state in drawn(17):
            told = last(*calls, ("least",))
            strikes = [("strike", i) for i in told[:0:-1]]
            self.assertEqual(ask(*calls, *strikes, ("bad",), ("least",))[-2:], [[0], [0]], calls)
            self.assertLessEqual(told[0], state[4])
            struck += told[0]
            for size in range(told[0]):
                for fewer in itertools.combinations(range(state[4]), size):
                    strikes = [("strike", i) for i in fewer[::-1]]
                    self.assertNotEqual(last(*calls, *strikes, ("bad",)), [0], (calls, fewer))
        self.assertGreater(struck, 50)

    def test_laid_or_known_instead_makes_all_right(self):
        tried = 0
        for chance, calls, state in drawn(18, 120):
            given = [("answers", p, a) for p, a, bad in logged(calls, state[4])]
            many = [last(*calls, (name,))[0] for name in ("laids", "knowns")]
            for k in {0, many[0] - 1} if many[0] else ():
                laid = last(*calls, ("laid", k))[0]
                again = [("begin", *state[:2]), ("rule", state[2]), ("lay", laid)]
                self.assertEqual(last(*again, *given, ("bad",)), [0])
                tried += len(given) > 0
            for k in {0, many[1] - 1} if many[1] else ():
                known = last(*calls, ("known", k))[0]
                again = [("begin", state[0], known), ("rule", state[2]), ("lay", state[3])]
                self.assertEqual(last(*again, *given, ("bad",)), [0])
                tried += len(given) > 0
            right = last(*calls, ("bad",)) == [0]
            for name, held, count in (("laid", state[3], many[0]), ("known", state[1], many[1])):
                listed = [last(*calls, (name, k))[0] for k in range(count)]
                self.assertEqual(held in listed, right)
                self.assertEqual(listed, sorted(set(listed)))
        self.assertGreater(tried, 50)

    def test_by_the_other_rule(self):
        for chance, calls, state in drawn(19):
            given = [("answers", p, a) for p, a, bad in logged(calls, state[4])]
            turned = [("begin", *state[:2]), ("rule", 1 - state[2]), ("lay", state[3])]
            self.assertEqual(last(*calls, ("other",)), last(*turned, *given, ("bad",)))

    def test_what_is_refused_changes_nothing(self):
        refused = 0
        for chance, calls, state in drawn(20, 400):
            told = ask(*calls)
            kept = [call for call, part in zip(calls, told) if part[0] >= 0]
            refused += len(calls) - len(kept)
            wanted = [part for part in told if part[0] >= 0]
            self.assertEqual(ask(*kept), wanted, calls)
            self.assertEqual(ask(*kept, ("state",), ("sums",))[-2:], ask(*calls, ("state",), ("sums",))[-2:])
        self.assertGreater(refused, 400)


if __name__ == "__main__":
    unittest.main()
