"""None of the calls that only ask changes anything: all other answers are the same with it and without it."""

import random
import unittest

from disputation.hall import answers
from tests.support import ASKED, NAMES, PROBES, TOP, ask, drawn_call, drawn_line, encode

SETUPS = (
    [("begin", 2, 1)],
    [("begin", 2, 9), ("stock", [3, 6, 9]), ("lay", 14), ("propose", 10), ("answers", 12, 1), ("learn", 8), ("back",)],
    [("begin", 2, 1), ("rule", 1), ("lay", 14), ("propose", 10), ("propose", 12), ("answers", 3, 2)],
    [("begin", 1, 3), ("stock", [2]), ("lay", 3), ("answers", 2, 1), ("answers", 2, 0), ("back",), ("back",)],
    [("begin", 3, 1), ("stock", [2, 4, 8, 16, 32, 64]), ("lay", 254), ("press", 128), ("answers", 2, 1)],
    [("begin", 2, 1), ("lay", 14), ("answers", 1, 1), ("finish",), ("lay", 6), ("back",)],
)
NUMBERS = {
    "right": (3,), "row": ([2, 1, 3],), "log": (0,), "concede": (2,), "deny": (1,), "may": (2,), "from_stock": (1, 2),
    "laid": (0,), "known": (0,), "clash": (3, 1), "letter": (0,), "not_of": (1,), "both": (1, 3), "either": (1, 2),
    "if_then": (3, 2),
}
CHANGED = [
    ("rule", 1), ("lay", 3), ("propose", 2), ("answers", 2, 1), ("press", 2), ("strike", 0), ("amend", 0, 2),
    ("learn", 1), ("stock", [1, 2]), ("finish",), ("back",), ("again",),
]


def question(name):
    return (name, *NUMBERS.get(name, ()))


class Asked(unittest.TestCase):
    def test_the_probes_behind_are_the_same(self):
        for setup in SETUPS:
            wanted = ask(*setup, *PROBES)
            for name in ASKED:
                told = ask(*setup, question(name), *PROBES)
                del told[len(setup)]
                self.assertEqual(told, wanted, (setup, name))

    def test_all_other_calls_behind_are_the_same(self):
        behind = CHANGED + [question(name) for name in ASKED]
        for setup in SETUPS:
            for call in behind:
                wanted = ask(*setup, call)[-1]
                for name in ASKED:
                    self.assertEqual(ask(*setup, question(name), call)[-1], wanted, (setup, name, call))

    def test_asked_twice(self):
        for setup in SETUPS:
            for name in ASKED:
                told = ask(*setup, question(name), question(name))
                self.assertEqual(told[-1], told[-2], (setup, name))

    def test_left_out_of_drawn_lines(self):
        chance = random.Random(21)
        for k in range(300):
            calls = drawn_line(chance, 1 + k % 3)
            told = ask(*calls)
            kept = [i for i, call in enumerate(calls) if call[0] not in ASKED]
            self.assertEqual(ask(*[calls[i] for i in kept]), [told[i] for i in kept], calls)

    def test_put_into_drawn_lines(self):
        chance = random.Random(22)
        for k in range(300):
            letters = 1 + k % 3
            calls = drawn_line(chance, letters, 10, 25)
            at = sorted(chance.randint(0, len(calls)) for i in range(20))
            longer = list(calls)
            for place in reversed(at):
                longer.insert(place, drawn_call(chance, letters, chance.choice(ASKED)))
            told = ask(*longer)
            for i in reversed(range(20)):
                del told[at[i] + i]
            self.assertEqual(told, ask(*calls), (calls, longer))


class HandedIn(unittest.TestCase):
    def test_the_list_stays_and_is_answered_the_same(self):
        chance = random.Random(23)
        for k in range(300):
            line = encode(drawn_line(chance, 1 + k % 3))
            kept = list(line)
            first = answers(line)
            self.assertEqual(line, kept)
            self.assertEqual(answers(line), first)
            self.assertEqual(line, kept)
            self.assertEqual({type(one) for one in first}, {int})

    def test_not_for_a_while_either(self):
        class Fixed(list):
            def refuse(self, *parts):
                raise AssertionError("the list that was handed in is changed")

            append = extend = insert = pop = remove = clear = sort = reverse = refuse
            __setitem__ = __delitem__ = __iadd__ = __imul__ = refuse

        chance = random.Random(24)
        for k in range(100):
            line = encode(drawn_line(chance, 1 + k % 3))
            self.assertEqual(answers(Fixed(line)), answers(line))

    def test_told_first_is_below_0_just_in_a_refusal(self):
        chance = random.Random(25)
        seen = set()
        for k in range(300):
            calls = drawn_line(chance, 1 + k % 3)
            for call, told in zip(calls, ask(*calls)):
                seen.add(call[0])
                self.assertTrue(all(0 <= one <= TOP for one in told[1:]), (call, told))
                if told[0] < 0:
                    self.assertIn(told, ([-2], [-6], [-11], [-16], [-17], [-22], [-28], [-33]))
        self.assertEqual(seen, set(NAMES))


if __name__ == "__main__":
    unittest.main()
