"""back and again (promise 1)."""

import unittest

from tests.support import LOOKS, ask, check_refused, last

HELD = [("begin", 2, 9), ("stock", [3, 6]), ("lay", 14), ("answers", 12, 1), ("propose", 10)]
FREE = HELD + [("finish",)]
CHANGES = [
    (FREE, ("rule", 1)), (FREE, ("rule", 0)), (FREE, ("lay", 7)), (FREE, ("learn", 1)), (FREE, ("stock", [1, 2])),
    (HELD, ("propose", 8)), (HELD, ("answers", 8, 0)), (HELD, ("press", 8)), (HELD, ("strike", 0)),
    (HELD, ("amend", 0, 0)), (HELD, ("learn", 8)), (HELD, ("stock", [])), (HELD, ("finish",)),
    (HELD, ("amend", 0, 1)), (HELD, ("stock", [3, 6])), (HELD, ("learn", 15)),
]


class Back(unittest.TestCase):
    def looks(self, *calls):
        told = ask(*calls, ("state",), *LOOKS)[len(calls):]
        del told[0][5:7]
        return told

    def test_every_kind_of_change_is_there(self):
        self.assertEqual(len({change[0] for setup, change in CHANGES}), 10)

    def test_taken_back(self):
        for setup, change in CHANGES:
            self.assertGreaterEqual(last(*setup, change)[0], 0, change)
            self.assertEqual(self.looks(*setup, change, ("back",)), self.looks(*setup), change)

    def test_done_again(self):
        for setup, change in CHANGES:
            told = ask(*setup, change, ("back",), ("again",), ("again",))[-3:]
            self.assertEqual(told, [[len(setup) - 1], [0], [-6]], change)
            behind = self.looks(*setup, change, ("back",), ("again",))
            self.assertEqual(behind, self.looks(*setup, change), change)

    def test_all_the_way(self):
        many = len(FREE) - 1
        told = ask(*FREE, *[("back",)] * (many + 1), *[("again",)] * (many + 1))[len(FREE):]
        falling = [[n] for n in range(many - 1, -1, -1)] + [[-6]]
        self.assertEqual(told, falling + falling)
        self.assertEqual(self.looks(*HELD, *[("back",)] * 4, *[("again",)] * 4), self.looks(*HELD))
        self.assertEqual(self.looks(*HELD, *[("back",)] * 4), self.looks(HELD[0]))

    def test_new_change_leaves_nothing_to_do_again(self):
        for setup, change in CHANGES:
            told = ask(*setup, ("learn", 15), ("learn", 15), ("back",), ("back",), change, ("again",), ("back",), ("back",))
            self.assertEqual(told[-3:], [[-6], [len(setup) - 1], [len(setup) - 2]], change)

    def test_refused_change_and_question_leave_it(self):
        for call in (("lay", 16), ("lay", 1), ("rule", 1), ("right", 1), ("stands",), ("begin", 0, 0), ("strike", 9)):
            told = ask(*HELD, ("propose", 8), ("back",), call, ("again",), ("again",))
            self.assertEqual(told[-2:], [[0], [-6]], call)

    def test_refused(self):
        check_refused(self, [("begin", 2, 1)], ("back",), -6)
        check_refused(self, [("begin", 2, 1)], ("again",), -6)
        check_refused(self, HELD, ("again",), -6)
        check_refused(self, HELD + [("back",)] * 4, ("back",), -6)
        check_refused(self, HELD + [("back",), ("again",)], ("again",), -6)

    def test_a_refused_change_is_none(self):
        self.assertEqual(ask(("begin", 2, 1), ("lay", 0), ("back",)), [[0], [-33], [-6]])

    def test_a_change_that_alters_nothing_is_one(self):
        self.assertEqual(ask(("begin", 2, 1), ("rule", 0), ("learn", 15), ("stock", []), ("back",))[4], [2])


class Twenty(unittest.TestCase):
    def stocks(self, many):
        return [("stock", [i]) for i in range(many)]

    def test_twenty_changes(self):
        told = ask(("begin", 3, 1), *self.stocks(20), *[("back",)] * 21)[21:]
        self.assertEqual(told, [[n] for n in range(19, -1, -1)] + [[-6]])

    def test_twenty_one_changes(self):
        calls = [("begin", 3, 1), *self.stocks(21), *[("back",)] * 21]
        told = ask(*calls)[22:]
        self.assertEqual(told, [[n] for n in range(19, -1, -1)] + [[-6]])

    def test_the_first_of_twenty_one_stays(self):
        calls = [("begin", 2, 1), ("lay", 14), *[("learn", 15)] * 20, *[("back",)] * 21, ("stands",), ("finish",)]
        self.assertEqual(ask(*calls)[-3:], [[-6], [3, 14], [0, 0, 0]])

    def test_all_twenty_again(self):
        calls = [("begin", 3, 1), *self.stocks(3)[:1] * 2, *[("back",)] * 2]
        self.assertEqual(ask(*calls)[3:], [[1], [0]])
        calls = [("begin", 2, 1), *[("learn", 15)] * 21, *[("back",)] * 10, *[("again",)] * 11, ("back",)]
        told = ask(*calls)[22:]
        self.assertEqual(told[:10], [[n] for n in range(19, 9, -1)])
        self.assertEqual(told[10:], [[n] for n in range(9, -1, -1)] + [[-6], [19]])

    def test_what_was_beyond_reach_stays_there(self):
        calls = [("begin", 2, 1), *[("learn", 15)] * 25, *[("back",)] * 3, ("learn", 1), ("back",)]
        self.assertEqual(ask(*calls)[-1], [17])


if __name__ == "__main__":
    unittest.main()
