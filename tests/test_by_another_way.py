"""Many lines of calls, each answered a second time straight from the document's words."""

import itertools
import random
import unittest

from tests.lines import ask


def comes_to(side, numbers):
    return sum(often * number for often, number in zip(side, numbers))


def so(told, numbers):
    kind, first, second = told
    one, other = comes_to(first, numbers), comes_to(second, numbers)
    return one > other if kind == 0 else one >= other if kind == 1 else one == other


class Plain:
    """One object that looks at all numbers anew whenever it is asked."""

    def __init__(self):
        self.n = None
        self.told = []

    def answer(self, name, *given):
        if self.n is None and name != "begin":
            return [-11]
        return getattr(self, name)(*given)

    def fitting(self):
        return [x for x in itertools.product(range(1, 9), repeat=self.n) if all(so(told, x) for told in self.told)]

    def fitting_of(self, these):
        """How many numbers agree with all of these that were told."""
        return sum(all(so(self.told[t], x) for t in these) for x in itertools.product(range(1, 9), repeat=self.n))

    def right(self, k, *sides):
        return k in (0, 1, 2) and all(len(side) == self.n and set(side) <= {0, 1, 2, 3} for side in sides)

    def begin(self, n):
        if n not in (1, 2, 3, 4):
            return [-22]
        self.n, self.told = n, []
        return [0]

    def tell(self, k, a, b):
        if not self.right(k, a, b):
            return [-22]
        if len(self.told) >= 6:
            return [-28]
        self.told.append((k, a, b))
        return [len(self.told) - 1]

    def differ(self, k, i, j, u, v):
        if any(thing not in range(self.n) for thing in (i, j, u, v)):
            return [-2]
        first, second = [0] * self.n, [0] * self.n
        for side, things in ((first, (i, v)), (second, (j, u))):
            for thing in things:
                side[thing] += 1
        return self.tell(k, first, second)

    def untell(self, t):
        if t not in range(len(self.told)):
            return [-2]
        del self.told[t]
        return [len(self.told)]

    def can(self):
        return [1] if self.fitting() else [0]

    def ways(self):
        return [len(self.fitting())]

    def least(self):
        ranked = sorted((sum(x), x) for x in self.fitting())
        return [ranked[0][0], *ranked[0][1]] if ranked else [-33]

    def nth(self, k):
        return [self.n, *self.fitting()[k]] if k < len(self.fitting()) else [-33]

    def fits(self, x):
        wrong = self.wrong(x)
        return wrong if wrong == [-22] else [int(wrong == [0])]

    def wrong(self, x):
        if len(x) != self.n or not set(x) <= set(range(1, 9)):
            return [-22]
        these = [t for t, told in enumerate(self.told) if not so(told, x)]
        return [len(these), *these]

    def follows(self, k, a, b):
        if not self.right(k, a, b):
            return [-22]
        fitting = self.fitting()
        return [int(all(so((k, a, b), x) for x in fitting))] if fitting else [-33]

    def may(self, k, a, b):
        if not self.right(k, a, b):
            return [-22]
        return [int(any(so((k, a, b), x) for x in self.fitting()))]

    def more(self, i, j):
        if i not in range(self.n) or j not in range(self.n):
            return [-2]
        fitting = self.fitting()
        if not fitting:
            return [-33]
        return [2 if all(x[i] > x[j] for x in fitting) else 0 if any(x[i] < x[j] for x in fitting) else 1]

    def range_of(self, i):
        if i not in range(self.n):
            return [-2]
        found = sorted(x[i] for x in self.fitting())
        return [found[0], found[-1]] if found else [-33]

    def sums(self, a):
        if not self.right(0, a):
            return [-22]
        found = sorted(comes_to(a, x) for x in self.fitting())
        return [found[0], found[-1]] if found else [-33]

    def clashes(self):
        if self.fitting():
            return [-33]
        found = []
        # The fewest first: what holds a clash, and is more than it, is none.
        for size in range(1, len(self.told) + 1):
            for these in itertools.combinations(range(len(self.told)), size):
                if not any(set(clash) <= set(these) for clash in found) and self.fitting_of(these) == 0:
                    found.append(these)
        return [len(found), *sorted(sum(2 ** t for t in clash) for clash in found)]

    def spare(self):
        every = range(len(self.told))
        count = self.fitting_of(every)
        if count == 0:
            return [-33]
        these = [t for t in every if self.fitting_of([other for other in every if other != t]) == count]
        return [len(these), *these]

    def balance(self, m):
        if len(m) != len(self.told) or not set(m) <= {0, 1, 2, 3}:
            return [-22]
        balances = [0] * self.n
        for times, (kind, first, second) in zip(m, self.told):
            for thing in range(self.n):
                balances[thing] += times * first[thing] - times * second[thing]
        return [self.n, *balances]

    def cancels(self, m):
        balances = self.balance(m)
        if balances == [-22]:
            return [-22]
        if any(one > 0 for one in balances[1:]):
            return [0]
        more = sum(times for times, told in zip(m, self.told) if told[0] == 0)
        return [1] if more or any(one < 0 for one in balances[1:]) else [0]

    def cancel(self):
        every = itertools.product(range(4), repeat=len(self.told))
        ranked = sorted((sum(m), m) for m in every if self.cancels(m) == [1])
        return [ranked[0][0], *ranked[0][1]] if ranked else [-33]

    def look(self, t):
        if t not in range(len(self.told)):
            return [-2]
        kind, first, second = self.told[t]
        return [kind, *first, *second]

    def state(self):
        return [self.n, len(self.told)]


def some_row(source, n, least, greatest):
    """Most often right for so many things, now and then too short, too long or beyond."""
    length = n if source.random() < 0.95 else source.randrange(6)
    beyond = source.random() < 0.05
    return [source.randint(max(0, least - beyond), greatest + beyond) for place in range(length)]


def some_kind(source):
    return source.choice([0, 0, 0, 1, 1, 1, 1, 2, 2, 3])


def some_things(source, n, count):
    top = n if source.random() < 0.2 else n - 1
    return [source.randint(0, top) for place in range(count)]


def some_call(source, n, told, names):
    """A call of one of these names, for n things of which so many are told."""
    name = source.choice(names)
    if name in ("tell", "follows", "may"):
        return (name, some_kind(source), some_row(source, n, 0, 3), some_row(source, n, 0, 3))
    if name == "differ":
        return (name, some_kind(source), *some_things(source, n, 4))
    if name == "more":
        return (name, *some_things(source, n, 2))
    if name == "range_of":
        return (name, *some_things(source, n, 1))
    if name == "sums":
        return (name, some_row(source, n, 0, 3))
    if name in ("cancels", "balance"):
        return (name, some_row(source, told, 0, 3))
    if name in ("untell", "look"):
        return (name, source.randrange(6))
    if name == "nth":
        return (name, source.choice([0, 1, 5, 27, 28, 63, 64, 511, 512]))
    if name in ("fits", "wrong"):
        return (name, some_row(source, n, 1, 8))
    return (name,)


TELLING = ["tell"] * 5 + ["differ"] * 3
ASKING = [
    "can", "ways", "least", "nth", "fits", "wrong", "follows", "may", "more", "range_of", "sums", "clashes", "spare",
    "cancels", "cancel", "balance", "look", "state",
]
MIXED = TELLING + ["untell"] * 2 + ASKING


def some_line(source):
    """Calls of all names in any order, with a begin here and there."""
    n = source.randint(1, 4)
    line = [("begin", n)]
    if source.random() < 0.1:
        line.insert(0, some_call(source, n, 0, MIXED))
    while len(line) < 24:
        line.append(some_call(source, n, source.randrange(7), MIXED))
        if source.random() < 0.03:
            n = source.randint(0, 5)
            line.append(("begin", n))
            n = min(max(n, 1), 4)
    return line


def some_told(source, n):
    """What is right to tell; most often of sides of which neither has as much as the other of every thing."""
    while True:
        first = [source.randint(0, 3) for place in range(n)]
        second = [source.randint(0, 3) for place in range(n)]
        leads = [one - other for one, other in zip(first, second)]
        if min(leads) < 0 < max(leads) or source.random() < 0.05:
            return (source.choice([0, 0, 1, 1, 1, 2]), first, second)


def some_asking_line(source):
    """Up to six are told first, in half of the lines such as some numbers agree with; then each other call is asked."""
    n = source.choice([1, 2, 2, 2, 3, 3, 3, 3])
    numbers = [source.randint(1, 8) for place in range(n)]
    some_fit = source.random() < 0.5
    line = [("begin", n)]
    for turn in range(source.randint(0, 6)):
        told = some_told(source, n)
        while some_fit and not so(told, numbers):
            told = some_told(source, n)
        line.append(("tell", *told))
    return line + [some_call(source, n, len(line) - 1, [name]) for name in ASKING]


class ByAnotherWay(unittest.TestCase):
    def check(self, line):
        plain = Plain()
        with self.subTest(line=line):
            self.assertEqual(ask(*line), [plain.answer(*call) for call in line])

    def test_many_lines(self):
        source = random.Random(20261116)
        for turn in range(150):
            self.check(some_line(source))

    def test_many_asking_lines(self):
        source = random.Random(61112026)
        for turn in range(200):
            self.check(some_asking_line(source))


if __name__ == "__main__":
    unittest.main()
