"""Lines by a fixed seed, answered the same as by the slow reading of the document."""

import random
import unittest

from tests.support import JUDGED, ask, drawn_line, told_by_reference


def stock_line(chance):
    """Much stands, one world is known, and the stock's propositions take little away: rows get long."""
    known = 2 ** chance.randrange(8)
    stock = [255 - 2 ** chance.randrange(8) - 2 ** chance.randrange(8) | known for i in range(6)]
    calls = [("begin", 3, known), ("rule", chance.randint(0, 3) // 3), ("stock", stock), ("lay", 255 - known)]
    calls += [("answers", 255 - 2 ** chance.randrange(8), chance.randrange(3)) for i in range(chance.randrange(3))]
    calls.append(("reach",))
    return calls + [("from_stock", a, chance.randrange(256)) for i in range(5) for a in range(3)]


def judged_line(chance, letters):
    """One disputation, rightly answered, or mostly, or by chance, and then all that judges it."""
    most = 2 ** 2 ** letters - 1
    known = chance.choice([chance.randint(1, most), 2 ** chance.randrange(2 ** letters)])
    laid = (most - known if chance.random() < 0.4 else 0) or chance.randint(1, most)
    calls = [("begin", letters, known), ("rule", chance.randint(0, 1)), ("lay", laid)]
    rightly = chance.choice([1, 0.8, 0.3])
    for i in range(chance.choice([0, 1, 3, 5, 8])):
        p = chance.randint(0, most)
        calls.append(("propose", p) if chance.random() < rightly else ("answers", p, chance.randrange(3)))
    if chance.random() < 0.3:
        calls.append(("learn", chance.randint(1, most)))
    if chance.random() < 0.3:
        calls.append(("amend", chance.randrange(4), chance.randrange(3)))
    calls += [(name,) for name in JUDGED if name not in ("laid", "known", "clash")]
    calls += [(name, chance.randint(0, most // 4)) for name in ("laid", "known", "laid", "known")]
    calls += [("clash", chance.randint(0, most) | known, chance.randint(0, most) | laid) for i in range(4)]
    return calls + [("finish",), ("sums",), ("state",)]


class Compared(unittest.TestCase):
    def compare(self, letters, lines, draw=drawn_line):
        chance = random.Random(1000 + letters)
        seen = {}
        for k in range(lines):
            calls = draw(chance, letters)
            for call, told, wanted in zip(calls, ask(*calls), told_by_reference(calls)):
                self.assertEqual(told, wanted, (call, calls))
                seen.setdefault(call[0], set()).add(tuple(told))
        return seen

    def test_one_letter(self):
        self.compare(1, 600)

    def test_two_letters(self):
        self.compare(2, 600)

    def test_three_letters(self):
        self.compare(3, 80)

    def test_judged(self):
        for letters, lines in ((1, 150), (2, 300), (3, 80)):
            seen = self.compare(letters, lines, judged_line)
            # With one letter two worlds are too few for verdict 3, and for a clash.
            self.assertEqual(seen["verdict"], {(0,), (1,), (2,), (3,)} - ({(3,)} if letters == 1 else set()))
            for name in JUDGED:
                if name != "reach" and (letters > 1 or name not in ("clash", "clashes")):
                    self.assertGreater(len(seen[name]), 1, name)

    def test_rows_of_the_stock(self):
        chance = random.Random(7)
        longest = 0
        for k in range(40):
            calls = stock_line(chance)
            told = ask(*calls)
            self.assertEqual(told, told_by_reference(calls), calls)
            longest = max([longest] + [part[0] for part in told[-15:]])
        self.assertGreaterEqual(longest, 4)


if __name__ == "__main__":
    unittest.main()
