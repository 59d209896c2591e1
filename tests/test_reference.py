"""Lines by a fixed seed, answered the same as by the slow reading of the document."""

import random
import unittest

from tests.support import NAMES, TOP, ask, told_by_reference

CHANGES = NAMES[1:11]
ASKED = NAMES[13:]


def number(chance, least, most):
    """Mostly one that fits; now and then the next one above, or the greatest that can be handed in."""
    return chance.choice([most + 1, TOP]) if chance.random() < 0.04 else chance.randint(least, most)


def proposition(chance, letters):
    return number(chance, 0, 2 ** 2 ** letters - 1)


def call_of(chance, letters, name):
    p = proposition(chance, letters)
    if name == "begin":
        return (name, number(chance, 0, 3), p)
    if name == "rule":
        return (name, number(chance, 0, 1))
    if name in ("answers", "amend"):
        first = p if name == "answers" else number(chance, 0, 3)
        return (name, first, number(chance, 0, 2))
    if name in ("strike", "log"):
        return (name, number(chance, 0, 4))
    if name in ("stock", "row"):
        size = number(chance, 0, 6) % 10
        return (name, [proposition(chance, letters) if i < 8 else p for i in range(size)])
    if name == "from_stock":
        return (name, number(chance, 0, 2), p)
    if name in ("finish", "back", "again", "stands", "false"):
        return (name,)
    return (name, p)


KINDS = (
    (("lay",), 2), (("propose", "answers", "press"), 7), (CHANGES, 5), (("back",), 2), (("again",), 1),
    (ASKED, 8), (("begin",), 0.1),
)


def name_of(chance):
    names = chance.choices([names for names, weight in KINDS], [weight for names, weight in KINDS])[0]
    return chance.choice(names)


def line_of(chance, letters):
    calls = [("begin", letters, chance.randint(1, 2 ** 2 ** letters - 1)), ("rule", chance.randint(0, 1))]
    if chance.random() < 0.8:
        calls += [call_of(chance, letters, "stock"), call_of(chance, letters, "lay")]
    if chance.random() < 0.05:
        calls = calls[1:]
    size = chance.randint(20, 45)
    while len(calls) < size:
        calls.append(call_of(chance, letters, name_of(chance)))
    return calls


def stock_line(chance):
    """Much stands, one world is known, and the stock's propositions take little away: rows get long."""
    known = 2 ** chance.randrange(8)
    stock = [255 - 2 ** chance.randrange(8) - 2 ** chance.randrange(8) | known for i in range(6)]
    calls = [("begin", 3, known), ("rule", chance.randint(0, 3) // 3), ("stock", stock), ("lay", 255 - known)]
    calls += [("answers", 255 - 2 ** chance.randrange(8), chance.randrange(3)) for i in range(chance.randrange(3))]
    return calls + [("from_stock", a, chance.randrange(256)) for i in range(5) for a in range(3)]


class Compared(unittest.TestCase):
    def compare(self, letters, lines):
        chance = random.Random(1000 + letters)
        for k in range(lines):
            calls = line_of(chance, letters)
            for call, told, wanted in zip(calls, ask(*calls), told_by_reference(calls)):
                self.assertEqual(told, wanted, (call, calls))

    def test_one_letter(self):
        self.compare(1, 600)

    def test_two_letters(self):
        self.compare(2, 600)

    def test_three_letters(self):
        self.compare(3, 80)

    def test_rows_of_the_stock(self):
        chance = random.Random(7)
        longest = 0
        for k in range(40):
            calls = stock_line(chance)
            told = ask(*calls)
            self.assertEqual(told, told_by_reference(calls), calls)
            longest = max([longest] + [part[0] for part in told[-15:]])
        self.assertGreaterEqual(longest, 4)


if __name__ == "__main__":
    unittest.main()
