"""begin, and what every other call answers before it (promise 1)."""

import unittest

from tests.support import NAMES, TOP, ask, check_refused, last

OTHERS = [
    ("rule", 0), ("lay", 1), ("propose", 1), ("answers", 1, 1), ("press", 1), ("strike", 0), ("amend", 0, 1),
    ("learn", 1), ("stock", [1]), ("finish",), ("back",), ("again",), ("right", 1), ("row", [1]), ("stands",),
    ("log", 0), ("concede", 1), ("deny", 1), ("may", 1), ("false",), ("from_stock", 1, 1), ("reach",), ("bad",),
    ("first",), ("caught",), ("mended",), ("least",), ("laids",), ("laid", 0), ("knowns",), ("known", 0), ("other",),
    ("clash", 1, 1), ("clashes",), ("verdict",), ("letter", 0), ("not_of", 1), ("both", 1, 1), ("either", 1, 1),
    ("if_then", 1, 1), ("sums",), ("state",),
]
WRONG_OTHERS = [
    ("rule", TOP), ("lay", TOP), ("propose", TOP), ("answers", TOP, TOP), ("press", TOP), ("strike", TOP),
    ("amend", TOP, TOP), ("learn", TOP), ("stock", [TOP] * 7), ("right", TOP), ("row", [TOP] * 9), ("log", TOP),
    ("concede", TOP), ("deny", TOP), ("may", TOP), ("from_stock", TOP, TOP), ("laid", TOP), ("known", TOP),
    ("clash", TOP, TOP), ("letter", TOP), ("not_of", TOP), ("both", TOP, TOP), ("either", TOP, TOP),
    ("if_then", TOP, TOP),
]
WRONG_BEGINS = [
    ("begin", 0, 1), ("begin", 4, 1), ("begin", TOP, 1), ("begin", 1, 4), ("begin", 2, 16), ("begin", 3, 256),
    ("begin", 1, 0), ("begin", 2, 0), ("begin", 3, 0), ("begin", 3, TOP), ("begin", 0, 0), ("begin", TOP, TOP),
]


class Begin(unittest.TestCase):
    def test_all_calls_are_among_the_others(self):
        self.assertEqual(tuple(call[0] for call in OTHERS), NAMES[1:])

    def test_begins(self):
        for letters, most in ((1, 3), (2, 15), (3, 255)):
            self.assertEqual(ask(("begin", letters, 1)), [[0]])
            self.assertEqual(ask(("begin", letters, most)), [[0]])

    def test_wrong_begins(self):
        for call in WRONG_BEGINS:
            self.assertEqual(ask(call), [[-22]], call)

    def test_before_a_begin(self):
        for call in OTHERS + WRONG_OTHERS:
            self.assertEqual(ask(call), [[-11]], call)

    def test_behind_a_refused_begin(self):
        for call in OTHERS:
            self.assertEqual(ask(("begin", 4, 1), call), [[-22], [-11]], call)

    def test_begin_behind_what_was_refused(self):
        told = ask(("begin", 0, 0), ("lay", 1), ("begin", 1, 1), ("lay", 1))
        self.assertEqual(told, [[-22], [-11], [0], [1]])

    def test_refused_begin_changes_nothing(self):
        setup = [("begin", 2, 1), ("rule", 1), ("stock", [3, 6]), ("lay", 14), ("propose", 10), ("propose", 3), ("back",)]
        for call in WRONG_BEGINS:
            check_refused(self, setup, call, -22)

    def test_new_begin_forgets_all(self):
        before = [
            ("begin", 2, 1), ("rule", 1), ("stock", [3, 6]), ("lay", 14), ("answers", 15, 0), ("finish",), ("lay", 14),
            ("propose", 10), ("propose", 3), ("back",),
        ]
        behind = [
            ("begin", 2, 15), ("back",), ("again",), ("stands",), ("rule", 0), ("lay", 14), ("log", 0),
            ("from_stock", 1, 3), ("stands",), ("right", 10), ("sums",), ("bad",), ("state",),
        ]
        told = ask(*before, *behind)[len(before):]
        self.assertEqual(told, ask(*behind))
        self.assertEqual(told, [
            [0], [-6], [-6], [-6], [0], [2], [-2], [-33], [3, 14], [2, 0], [0, 0, 0], [0], [2, 15, 0, 14, 0, 2, 0],
        ])

    def test_new_begin_takes_other_letters(self):
        self.assertEqual(last(("begin", 1, 1), ("lay", 2), ("begin", 3, 255), ("lay", 255)), [1])
        self.assertEqual(last(("begin", 3, 255), ("lay", 255), ("begin", 1, 1), ("lay", 4)), [-22])

    def test_first_state(self):
        told = ask(("begin", 2, 5), ("back",), ("again",), ("rule", 0), ("stands",), ("learn", 15), ("lay", 15), ("log", 0))
        self.assertEqual(told, [[0], [-6], [-6], [0], [-6], [2], [1], [-2]])
        self.assertEqual(ask(("begin", 2, 5), ("state",), ("sums",)), [[0], [2, 5, 0, 0, 0, 0, 0], [0, 0, 0]])


if __name__ == "__main__":
    unittest.main()
