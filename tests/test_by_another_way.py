"""Many lines of calls, each answered a second time straight from the document's words."""

import itertools
import random
import unittest

from tests.lines import ask


def comes_to(side, numbers):
    return sum(often * number for often, number in zip(side, numbers))


def so(told, numbers):
    kind, first, second = told
    one, other = comes_to(first, numbers), comes_to(second, numbers)
    return one > other if kind == 0 else one >= other if kind == 1 else one == other


class Plain:
    """One object that looks at all numbers anew whenever it is asked."""

    def __init__(self):
        self.n = None
        self.told = []

    def answer(self, name, *given):
        if self.n is None and name != "begin":
            return [-11]
        return getattr(self, name)(*given)

    def fitting(self):
        return [x for x in itertools.product(range(1, 9), repeat=self.n) if all(so(told, x) for told in self.told)]

    def right(self, k, *sides):
        return k in (0, 1, 2) and all(len(side) == self.n and set(side) <= {0, 1, 2, 3} for side in sides)

    def begin(self, n):
        if n not in (1, 2, 3, 4):
            return [-22]
        self.n, self.told = n, []
        return [0]

    def tell(self, k, a, b):
        if not self.right(k, a, b):
            return [-22]
        if len(self.told) >= 6:
            return [-28]
        self.told.append((k, a, b))
        return [len(self.told) - 1]

    def differ(self, k, i, j, u, v):
        if any(thing not in range(self.n) for thing in (i, j, u, v)):
            return [-2]
        first, second = [0] * self.n, [0] * self.n
        for side, things in ((first, (i, v)), (second, (j, u))):
            for thing in things:
                side[thing] += 1
        return self.tell(k, first, second)

    def untell(self, t):
        if t not in range(len(self.told)):
            return [-2]
        del self.told[t]
        return [len(self.told)]

    def can(self):
        return [1] if self.fitting() else [0]

    def ways(self):
        return [len(self.fitting())]

    def least(self):
        ranked = sorted((sum(x), x) for x in self.fitting())
        return [ranked[0][0], *ranked[0][1]] if ranked else [-33]

    def nth(self, k):
        return [self.n, *self.fitting()[k]] if k < len(self.fitting()) else [-33]

    def fits(self, x):
        wrong = self.wrong(x)
        return wrong if wrong == [-22] else [int(wrong == [0])]

    def wrong(self, x):
        if len(x) != self.n or not set(x) <= set(range(1, 9)):
            return [-22]
        these = [t for t, told in enumerate(self.told) if not so(told, x)]
        return [len(these), *these]

    def follows(self, k, a, b):
        if not self.right(k, a, b):
            return [-22]
        fitting = self.fitting()
        return [int(all(so((k, a, b), x) for x in fitting))] if fitting else [-33]


def some_row(source, n, least, greatest):
    """Most often right for so many things, now and then too short, too long or beyond."""
    length = n if source.random() < 0.95 else source.randrange(6)
    beyond = source.random() < 0.05
    return [source.randint(max(0, least - beyond), greatest + beyond) for place in range(length)]


def some_kind(source):
    return source.choice([0, 0, 0, 1, 1, 1, 1, 2, 2, 3])


def some_call(source, n):
    name = source.choice(["tell"] * 5 + ["differ"] * 3 + ["untell"] * 2 + [
        "can", "ways", "least", "nth", "fits", "wrong", "follows", "follows",
    ])
    if name in ("tell", "follows"):
        return (name, some_kind(source), some_row(source, n, 0, 3), some_row(source, n, 0, 3))
    if name == "differ":
        top = n if source.random() < 0.2 else n - 1
        return (name, some_kind(source), *[source.randint(0, top) for place in range(4)])
    if name == "untell":
        return (name, source.randrange(6))
    if name == "nth":
        return (name, source.choice([0, 1, 5, 27, 28, 63, 64, 511, 512]))
    if name in ("fits", "wrong"):
        return (name, some_row(source, n, 1, 8))
    return (name,)


def some_line(source):
    n = source.randint(1, 4)
    line = [("begin", n)]
    if source.random() < 0.1:
        line.insert(0, some_call(source, n))
    while len(line) < 24:
        line.append(some_call(source, n))
        if source.random() < 0.03:
            n = source.randint(0, 5)
            line.append(("begin", n))
            n = min(max(n, 1), 4)
    return line


class ByAnotherWay(unittest.TestCase):
    def test_many_lines(self):
        source = random.Random(20261116)
        for turn in range(250):
            line = some_line(source)
            plain = Plain()
            with self.subTest(line=line):
                self.assertEqual(ask(*line), [plain.answer(*call) for call in line])


if __name__ == "__main__":
    unittest.main()
