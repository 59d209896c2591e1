"""For the tests: lines of calls by name, and a slow reading of the document to compare with."""

import copy
import functools
import itertools

from disputation.hall import answers

NAMES = (
    "begin", "rule", "lay", "propose", "answers", "press", "strike", "amend", "learn", "stock", "finish",
    "back", "again", "right", "row", "stands", "log", "concede", "deny", "may", "false", "from_stock", "reach",
    "bad", "first", "caught", "mended", "least", "laids", "laid", "knowns", "known", "other", "clash", "clashes",
    "verdict", "letter", "not_of", "both", "either", "if_then", "sums", "state",
)
CHANGES = NAMES[1:11]
ASKED = NAMES[13:]
# Those that answer -6, behind -22, where nothing is laid down.
JUDGED = NAMES[22:36]
LISTED = ("stock", "row")
TOP = 4294967295


def encode(calls):
    line = []
    for name, *numbers in calls:
        line.append(NAMES.index(name))
        if name in LISTED:
            line.append(len(numbers[0]))
            line.extend(numbers[0])
        else:
            line.extend(numbers)
    return line


def decode(told):
    parts = []
    at = 0
    while at < len(told):
        size = told[at]
        part = told[at + 1:at + 1 + size]
        assert size > 0 and len(part) == size
        parts.append(part)
        at += 1 + size
    return parts


def ask(*calls):
    """What each of the calls answers, a list each."""
    assert len(calls) <= 45
    parts = decode(answers(encode(calls)))
    assert len(parts) == len(calls)
    return parts


def last(*calls):
    return ask(*calls)[-1]


# These show all that is held, but how many changes can be taken back or done again.
LOOKS = (
    [("sums",), ("stands",)] + [("log", i) for i in range(8)]
    + [(name,) for name in ("reach", "bad", "mended", "least", "laids", "knowns", "other", "clashes", "verdict")]
    + [("finish",), ("sums",), ("rule", 0), ("lay", 3), ("from_stock", 1, 2), ("learn", 3)]
)
# And these show that, too, and some of what was held before and behind.
PROBES = (
    [("state",), ("again",), ("again",), ("back",), ("back",), ("back",), ("state",), ("again",)] + LOOKS
)


def check_refused(case, setup, call, number):
    """The call behind setup is refused by this number, and nothing changes."""
    told = ask(*setup, call, *PROBES)
    case.assertEqual(told[len(setup)], [number], (setup, call))
    del told[len(setup)]
    case.assertEqual(told, ask(*setup, *PROBES), (setup, call))


@functools.lru_cache(maxsize=None)
def worlds_of(p):
    return frozenset(w for w in range(8) if p // 2 ** w % 2 == 1)


class Held:
    """What is held at one time: worlds as sets, everything asked by walking through all there is."""

    def __init__(self, letters, known):
        self.worlds = 2 ** letters
        self.known = self.set_of(known)
        self.rule = 0
        self.laid = None
        self.log = []
        self.stock = []
        self.over = []

    def set_of(self, p):
        return worlds_of(p)

    def number_of(self, worlds):
        return sum(2 ** w for w in worlds)

    def fits(self, p):
        return p < 2 ** self.worlds

    def everything(self):
        return range(2 ** self.worlds)

    def matter(self, by, p):
        if all(w in self.set_of(p) for w in by):
            return 1
        if not any(w in self.set_of(p) for w in by):
            return 2
        return 0

    def right_by(self, by, p):
        matter = self.matter(by, p)
        if matter == 1:
            return 1
        if matter == 2:
            return 0
        if self.known <= self.set_of(p):
            return 1
        if self.known.isdisjoint(self.set_of(p)):
            return 0
        return 2

    def stands(self, log):
        found = self.set_of(self.laid)
        for p, a in log:
            if a == 1:
                found = found & self.set_of(p)
            if a == 0:
                found = found - self.set_of(p)
        return found

    def by(self, log):
        return self.stands([]) if self.rule == 1 else self.stands(log)

    def right(self, log, p):
        return self.right_by(self.by(log), p)

    def behind(self, row):
        log = list(self.log)
        for p in row:
            log.append((p, self.right(log, p)))
        return log

    def bad(self, i):
        p, a = self.log[i]
        return a != self.right(self.log[:i], p)

    def all_bad(self):
        return [i for i in range(len(self.log)) if self.bad(i)]

    def instead(self, **parts):
        other = copy.copy(self)
        vars(other).update(parts)
        return other

    def struck(self, number):
        return self.instead(log=[pair for i, pair in enumerate(self.log) if number // 2 ** i % 2 == 0])

    def shortest(self, t, a):
        # Where there are few propositions, longer rows than promise 6 allows for are tried, too.
        for size in range({2: 4, 4: 3, 8: 2}[self.worlds]):
            for row in itertools.product(self.everything(), repeat=size):
                if self.right(self.behind(row), t) == a:
                    return [*row, t]
        return None

    def shortest_of_stock(self, t, a):
        places = range(len(self.stock))
        for size in range(len(self.stock) + 1):
            # What was rightly answered once is answered the same from then on, or was doubted and did nothing:
            # a shortest row has no place twice.
            for row in itertools.permutations(places, size):
                if self.right(self.behind([self.stock[i] for i in row]), t) == a:
                    return list(row)
        return None


class Reference:
    """The calls of the document, each change kept as a call and all of them done anew after a back."""

    def __init__(self):
        self.start = None

    def call(self, name, *numbers):
        if name == "begin":
            return self.begin(*numbers)
        if self.start is None:
            return [-11]
        if name == "back":
            return self.back()
        if name == "again":
            return self.again()
        held = self.held()
        told = self.told(held, name, numbers)
        if NAMES.index(name) <= 10 and told[0] >= 0:
            self.done.append((name, *numbers))
            self.free = min(20, self.free + 1)
            self.undone = []
        return told

    def told(self, held, name, numbers):
        if name == "clash" and not all(held.fits(p) for p in numbers):
            return [-22]
        if name in JUDGED and held.laid is None:
            return [-6]
        return getattr(self, name)(held, *numbers)

    def begin(self, m, k):
        if m not in (1, 2, 3) or k >= 2 ** 2 ** m or k == 0:
            return [-22]
        self.start = (m, k)
        self.done = []
        self.free = 0
        self.undone = []
        return [0]

    def held(self):
        held = Held(*self.start)
        for name, *numbers in self.done:
            getattr(self, name)(held, *numbers)
        return held

    def back(self):
        if self.free == 0:
            return [-6]
        self.free -= 1
        self.undone.append(self.done.pop())
        return [self.free]

    def again(self):
        if not self.undone:
            return [-6]
        self.free += 1
        self.done.append(self.undone.pop())
        return [len(self.undone)]

    def rule(self, held, r):
        if r > 1:
            return [-22]
        if held.laid is not None:
            return [-16]
        was, held.rule = held.rule, r
        return [was]

    def lay(self, held, p):
        if not held.fits(p):
            return [-22]
        if held.laid is not None:
            return [-17]
        if p == 0:
            return [-33]
        held.laid = p
        return [held.right_by(held.known, p)] if held.matter(held.known, p) else [2]

    def propose(self, held, p):
        if not held.fits(p):
            return [-22]
        if held.laid is None:
            return [-6]
        if len(held.log) == 8:
            return [-28]
        a, matter = held.right(held.log, p), held.matter(held.by(held.log), p)
        held.log.append((p, a))
        return [a, matter, len(held.stands(held.log))]

    def answers(self, held, p, a):
        if not held.fits(p) or a > 2:
            return [-22]
        if held.laid is None:
            return [-6]
        if len(held.log) == 8:
            return [-28]
        right = held.right(held.log, p)
        held.log.append((p, a))
        return [int(a == right), right, len(held.stands(held.log))]

    def press(self, held, t):
        told = self.concede(held, t)
        if told[0] >= 0 and len(held.log) + told[0] > 8:
            return [-28]
        if told[0] >= 0:
            held.log = held.behind(told[1:])
        return told

    def strike(self, held, i):
        if held.laid is None:
            return [-6]
        if i >= len(held.log):
            return [-2]
        held.log.pop(i)
        return [len(held.log)]

    def amend(self, held, i, a):
        if held.laid is None:
            return [-6]
        if i >= len(held.log):
            return [-2]
        if a > 2:
            return [-22]
        p, was = held.log[i]
        held.log[i] = (p, a)
        return [was]

    def learn(self, held, k):
        if not held.fits(k):
            return [-22]
        if not held.known & held.set_of(k):
            return [-33]
        held.known = held.known & held.set_of(k)
        return [len(held.known)]

    def stock(self, held, listed):
        if len(listed) > 6 or not all(held.fits(p) for p in listed):
            return [-22]
        held.stock = list(listed)
        return [len(listed)]

    def finish(self, held):
        if held.laid is None:
            return [-6]
        bad = sum(held.bad(i) for i in range(len(held.log)))
        caught = not held.stands(held.log)
        verdict = {(0, 0): 0, (1, 0): 1, (1, 1): 2, (0, 1): 3}[(int(bad > 0), int(caught))]
        told = [verdict, len(held.log), bad]
        held.over = held.over + [(caught, bad)]
        held.laid, held.log = None, []
        return told

    def right(self, held, p):
        if not held.fits(p):
            return [-22]
        if held.laid is None:
            return [-6]
        return [held.right(held.log, p), held.matter(held.by(held.log), p)]

    def row(self, held, listed):
        if len(listed) > 8 or not all(held.fits(p) for p in listed):
            return [-22]
        if held.laid is None:
            return [-6]
        return [len(listed)] + [a for p, a in held.behind(listed)[len(held.log):]]

    def stands(self, held):
        if held.laid is None:
            return [-6]
        stands = held.stands(held.log)
        return [len(stands), held.number_of(stands)]

    def log(self, held, i):
        if held.laid is None:
            return [-6]
        if i >= len(held.log):
            return [-2]
        return [*held.log[i], int(held.bad(i))]

    def concede(self, held, t, a=1):
        if not held.fits(t):
            return [-22]
        if held.laid is None:
            return [-6]
        row = held.shortest(t, a)
        return [-33] if row is None else [len(row), *row]

    def deny(self, held, t):
        return self.concede(held, t, 0)

    def may(self, held, t):
        told = [self.concede(held, t, a)[0] for a in range(3)]
        if told[0] in (-22, -6):
            return [told[0]]
        return [sum(counts for counts, n in zip((1, 2, 4), told) if n > 0)]

    def false(self, held):
        if held.laid is None:
            return [-6]
        never = [p for p in held.everything() if held.known.isdisjoint(held.set_of(p))]
        return [sum(held.shortest(p, 1) is not None for p in never)]

    def from_stock(self, held, a, t):
        if a > 2 or not held.fits(t):
            return [-22]
        if held.laid is None:
            return [-6]
        row = held.shortest_of_stock(t, a)
        return [-33] if row is None else [len(row), *row]

    def reach(self, held):
        found, more = set(), {held.stands(held.log)}
        while found != more:
            found = set(more)
            for worlds, p in itertools.product(found, held.stock):
                answer = held.right_by(worlds, p)
                more.add(worlds & held.set_of(p) if answer == 1 else worlds - held.set_of(p) if answer == 0 else worlds)
        return [len(found)]

    def bad(self, held):
        return [len(held.all_bad()), *held.all_bad()]

    def first(self, held):
        for i in held.all_bad():
            return [i, held.right(held.log[:i], held.log[i][0])]
        return [-33]

    def caught(self, held):
        for many in range(len(held.log) + 1):
            if not held.stands(held.log[:many]):
                return [many]
        return [-33]

    def mended(self, held):
        log = held.instead(log=[]).behind([p for p, a in held.log])
        return [len(log), *[a for p, a in log]]

    def least(self, held):
        good = [number for number in range(2 ** len(held.log)) if not held.struck(number).all_bad()]
        best = min(good, key=lambda number: (bin(number).count("1"), number))
        return [bin(best).count("1"), *[i for i in range(8) if best // 2 ** i % 2 == 1]]

    def all_laid(self, held):
        return [p for p in held.everything() if p > 0 and not held.instead(laid=p).all_bad()]

    def all_known(self, held):
        return [k for k in held.everything() if k > 0 and not held.instead(known=held.set_of(k)).all_bad()]

    def laids(self, held):
        return [len(self.all_laid(held))]

    def laid(self, held, k):
        return (self.all_laid(held)[k:] + [-33])[:1]

    def knowns(self, held):
        return [len(self.all_known(held))]

    def known(self, held, k):
        return (self.all_known(held)[k:] + [-33])[:1]

    def other(self, held):
        return self.bad(held.instead(rule=[1, 0][held.rule]))

    def clash(self, held, p, q):
        by = held.set_of(held.laid)
        joined = held.number_of(held.set_of(p) & held.set_of(q))
        return [int([held.right_by(by, part) for part in (p, q, joined)] == [1, 1, 0])]

    def clashes(self, held):
        told = [held.right_by(held.set_of(held.laid), p) for p in held.everything()]
        return [sum((told[p], told[q], told[p & q]) == (1, 1, 0) for p in held.everything() for q in range(p))]

    def verdict(self, held):
        return [{(0, 0): 0, (1, 0): 1, (1, 1): 2, (0, 1): 3}[(
            int(held.all_bad() != []), int(len(held.stands(held.log)) == 0),
        )]]

    def letter(self, held, i):
        if i >= self.start[0]:
            return [-2]
        return [held.number_of(w for w in range(held.worlds) if w // 2 ** i % 2 == 1)]

    def reckoned(self, held, propositions, is_so):
        if not all(held.fits(p) for p in propositions):
            return [-22]
        sets = [held.set_of(p) for p in propositions]
        return [held.number_of(w for w in range(held.worlds) if is_so(*[w in worlds for worlds in sets]))]

    def not_of(self, held, p):
        return self.reckoned(held, (p,), lambda a: not a)

    def both(self, held, p, q):
        return self.reckoned(held, (p, q), lambda a, b: a and b)

    def either(self, held, p, q):
        return self.reckoned(held, (p, q), lambda a, b: a or b)

    def if_then(self, held, p, q):
        return self.reckoned(held, (p, q), lambda a, b: not a or b)

    def sums(self, held):
        return [len(held.over), sum(caught for caught, bad in held.over), sum(bad for caught, bad in held.over)]

    def state(self, held):
        return [
            self.start[0], held.number_of(held.known), held.rule, held.laid or 0, len(held.log), self.free,
            len(self.undone), *held.stock,
        ]


def told_by_reference(calls):
    reference = Reference()
    return [reference.call(*call) for call in calls]


def number(chance, least, most):
    """Mostly one that fits; now and then the next one above, or the greatest that can be handed in."""
    return chance.choice([most + 1, TOP]) if chance.random() < 0.04 else chance.randint(least, most)


def proposition(chance, letters):
    return number(chance, 0, 2 ** 2 ** letters - 1)


def drawn_call(chance, letters, name):
    p = proposition(chance, letters)
    if name == "begin":
        return (name, number(chance, 0, 3), p)
    if name == "rule":
        return (name, number(chance, 0, 1))
    if name in ("answers", "amend"):
        first = p if name == "answers" else number(chance, 0, 3)
        return (name, first, number(chance, 0, 2))
    if name in ("strike", "log"):
        return (name, number(chance, 0, 4))
    if name in ("stock", "row"):
        size = number(chance, 0, 6) % 10
        return (name, [proposition(chance, letters) if i < 8 else p for i in range(size)])
    if name == "from_stock":
        return (name, number(chance, 0, 2), p)
    if name in ("laid", "known"):
        return (name, number(chance, 0, chance.choice([0, 3, p])))
    if name == "letter":
        return (name, number(chance, 0, letters - 1))
    if name in ("clash", "both", "either", "if_then"):
        return (name, p, proposition(chance, letters))
    if name in ("right", "concede", "deny", "may", "not_of", "lay", "propose", "press", "learn"):
        return (name, p)
    return (name,)


def drawn_name(chance):
    kinds = (
        (("lay",), 2), (("propose", "answers", "press"), 7), (CHANGES, 5), (("back",), 2), (("again",), 1),
        (ASKED, 14), (("begin",), 0.1),
    )
    return chance.choice(chance.choices([names for names, weight in kinds], [weight for names, weight in kinds])[0])


def drawn_line(chance, letters, least=20, most=45):
    calls = [("begin", letters, chance.randint(1, 2 ** 2 ** letters - 1)), ("rule", chance.randint(0, 1))]
    if chance.random() < 0.8:
        calls += [drawn_call(chance, letters, "stock"), drawn_call(chance, letters, "lay")]
    if chance.random() < 0.05:
        calls = calls[1:]
    size = chance.randint(least, most)
    while len(calls) < size:
        calls.append(drawn_call(chance, letters, drawn_name(chance)))
    return calls
