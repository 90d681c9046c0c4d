"""Promise 5, what holds over the whole program; the corners, asked of every call; and the longest lines."""

import itertools
import operator
import random
import unittest

from sumsweighed.comparing import answers
from tests.lines import NUMBERS, ask, last, written
from tests.test_by_another_way import so, some_told

GREATEST = 4294967295
NEVER = ("tell", 0, [0, 0], [0, 0])


def some_lists_of_told(count):
    source = random.Random(1116)
    for turn in range(count):
        n = source.choice([2, 2, 3])
        yield n, [some_told(source, n) for place in range(source.randint(1, 5))]


def telling(n, told):
    return [("begin", n)] + [("tell", *one) for one in told]


def every_that_fits(n, told):
    """All that nth tells, in lines that are no longer than a line may be."""
    begun = telling(n, told)
    count = last(*begun, ("ways",))[0]
    found = []
    for start in range(0, count, 18):
        asked = [("nth", k) for k in range(start, min(start + 18, count))]
        found.extend(tuple(one[1:]) for one in ask(*begun, *asked)[len(begun):])
    return found


class WhatHolds(unittest.TestCase):
    def test_where_it_cancels_no_numbers_agree_however_great(self):
        cancelled = 0
        for n, told in some_lists_of_told(120):
            *begun, can, cancel, clashes = ask(*telling(n, told), ("can",), ("cancel",), ("clashes",))
            if cancel == [-33]:
                continue
            cancelled += 1
            with self.subTest(told=told):
                self.assertEqual(can, [0])
                self.assertNotEqual(clashes, [-33])
                self.assertEqual(last(*telling(n, told), ("cancels", cancel[1:])), [1])
                greater = itertools.product(range(1, 25), repeat=n)
                self.assertFalse(any(all(so(one, x) for one in told) for x in greater))
        self.assertGreater(cancelled, 10)

    def test_what_fits_fits_multiplied(self):
        for n, told in some_lists_of_told(40):
            fitting = every_that_fits(n, told)
            for x in fitting:
                for factor in range(2, 8 // max(x) + 1):
                    with self.subTest(told=told, x=x, factor=factor):
                        self.assertIn(tuple(factor * number for number in x), fitting)

    def test_the_numbers_told_are_all_that_fit(self):
        for n, told in some_lists_of_told(40):
            every = itertools.product(range(1, 9), repeat=n)
            with self.subTest(told=told):
                self.assertEqual(every_that_fits(n, told), [x for x in every if all(so(one, x) for one in told)])

    def test_what_is_told_of_differences_is_so_of_them(self):
        for i, j, u, v in ((0, 1, 1, 2), (0, 1, 2, 1), (2, 0, 0, 1), (0, 1, 0, 1), (1, 1, 0, 2), (2, 2, 1, 1)):
            for kind, holds in enumerate((operator.gt, operator.ge, operator.eq)):
                every = itertools.product(range(1, 9), repeat=3)
                agree = [x for x in every if holds(x[i] - x[j], x[u] - x[v])]
                told = [("begin", 3), ("differ", kind, i, j, u, v)]
                with self.subTest(told=told):
                    self.assertEqual(last(*told, ("ways",)), [len(agree)])
                    for x in agree[::9]:
                        self.assertEqual(last(*told, ("fits", list(x))), [1])

    def test_clashes_are_least_sets_that_no_numbers_agree_with(self):
        seen = 0
        for n, told in some_lists_of_told(60):
            clashes = last(*telling(n, told), ("clashes",))
            for clash in clashes[1:]:
                seen += 1
                these = [one for t, one in enumerate(told) if clash >> t & 1]
                with self.subTest(told=told, clash=clash):
                    self.assertEqual(last(*telling(n, these), ("can",)), [0])
                    for gone in range(len(these)):
                        self.assertEqual(last(*telling(n, these), ("untell", gone), ("can",)), [1])
        self.assertGreater(seen, 20)

    def test_what_is_spare_can_go_and_what_is_not_cannot(self):
        for n, told in some_lists_of_told(60):
            *begun, ways, spare = ask(*telling(n, told), ("ways",), ("spare",))
            if spare == [-33]:
                continue
            for t in range(len(told)):
                with self.subTest(told=told, t=t):
                    then = last(*telling(n, told), ("untell", t), ("ways",))
                    self.assertEqual(then == ways, t in spare[1:])


class WhatIsRefusedChangesNothing(unittest.TestCase):
    # Of every call that can be refused behind a begin with two things: all refusals, where six are told.
    ALWAYS_REFUSED = [
        ("begin", 0), ("begin", 5), ("tell", 3, [1, 0], [0, 1]), ("tell", 0, [1], [0, 1]), ("tell", 0, [1, 0], [0, 4]),
        ("tell", 0, [0, 1], [1, 0]), ("differ", 0, 0, 1, 1, 2), ("differ", 3, 0, 1, 1, 0), ("differ", 0, 1, 0, 0, 1),
        ("untell", 6), ("nth", 64), ("fits", [0, 1]), ("wrong", [1, 9]), ("follows", 3, [1, 0], [0, 1]),
        ("may", 0, [1, 0], [0, 4]), ("more", 0, 2), ("more", GREATEST, 1), ("range_of", 2), ("sums", [4, 0]),
        ("sums", []), ("cancels", [1, 1]), ("cancels", [4, 0, 0, 0, 0, 0]), ("balance", [0] * 7), ("look", 6),
    ]
    SOME_FIT = [("begin", 2)] + [("tell", 0, [1, 0], [0, 1]), ("differ", 1, 0, 1, 1, 0)] * 3
    NONE_FIT = [("begin", 2)] + [("tell", 0, [1, 0], [0, 1]), ("differ", 1, 1, 0, 0, 1)] * 3
    # All that can be seen, in one line behind what was told and one refused call.
    SEEN = [("state",), ("ways",), ("clashes",), ("spare",), ("cancel",), ("least",), ("wrong", [1, 1]),
            ("wrong", [1, 2]), ("wrong", [2, 1]), ("balance", [3, 1, 2, 0, 1, 1])] + [("look", t) for t in range(7)]

    def test_each(self):
        for told, others in (
            (self.SOME_FIT, [("clashes",), ("cancel",)]),
            (self.NONE_FIT, [("least",), ("nth", 0), ("follows", 0, [1, 0], [0, 1]), ("more", 0, 1), ("range_of", 0),
                             ("sums", [1, 1]), ("spare",)]),
        ):
            before = ask(*told, *self.SEEN)[7:]
            for refused in self.ALWAYS_REFUSED + others:
                with self.subTest(told=told, refused=refused):
                    first, *after = ask(*told, refused, *self.SEEN)[7:]
                    self.assertEqual(len(first), 1)
                    self.assertLess(first[0], 0)
                    self.assertEqual(after, before)

    def test_asking_changes_nothing_either(self):
        asked = [("can",), ("ways",), ("least",), ("nth", 0), ("fits", [2, 1]), ("wrong", [1, 2]),
                 ("follows", 1, [1, 0], [0, 1]), ("may", 2, [2, 0], [0, 3]), ("more", 0, 1), ("range_of", 0),
                 ("sums", [3, 1]), ("clashes",), ("spare",), ("cancels", [1, 0, 1, 0, 1, 0]), ("cancel",),
                 ("balance", [1, 2, 3, 0, 1, 2]), ("look", 3), ("state",)]
        for told in (self.SOME_FIT, self.NONE_FIT):
            before = ask(*told, *self.SEEN)[7:]
            for call in asked:
                with self.subTest(told=told, call=call):
                    self.assertEqual(ask(*told, call, *self.SEEN)[8:], before)


class Corners(unittest.TestCase):
    ASKED = [("can",), ("ways",), ("spare",), ("clashes",), ("cancel",)]

    def answered(self, *begun):
        return ask(*begun, *self.ASKED)[len(begun):]

    def test_one_thing(self):
        begun = [("begin", 1), ("tell", 0, [2], [1])]
        self.assertEqual(self.answered(*begun), [[1], [8], [1, 0], [-33], [-33]])
        calls = [("may", 0, [1], [2]), ("may", 1, [2], [1]), ("more", 0, 0), ("range_of", 0), ("sums", [3]),
                 ("cancels", [3]), ("balance", [3]), ("look", 0), ("state",)]
        self.assertEqual(ask(*begun, *calls)[2:],
                         [[0], [1], [1], [1, 8], [3, 24], [0], [1, 3], [0, 2, 1], [1, 1]])
        self.assertEqual(self.answered(("begin", 1), ("tell", 1, [1], [2])), [[0], [0], [-33], [1, 1], [1, 1]])

    def test_nothing_told(self):
        self.assertEqual(self.answered(("begin", 3)), [[1], [512], [0], [-33], [-33]])

    def test_sides_alike_and_both_empty(self):
        for side in ([0, 0], [1, 1], [3, 2]):
            for kind, answered in (
                (0, [[0], [0], [-33], [1, 1], [1, 1]]),
                (1, [[1], [64], [1, 0], [-33], [-33]]),
                (2, [[1], [64], [1, 0], [-33], [-33]]),
            ):
                with self.subTest(side=side, kind=kind):
                    self.assertEqual(self.answered(("begin", 2), ("tell", kind, side, side)), answered)

    def test_a_thing_on_both_sides(self):
        begun = [("begin", 2), ("tell", 0, [3, 0], [1, 2])]
        self.assertEqual(self.answered(*begun), [[1], [28], [0], [-33], [-33]])
        self.assertEqual(ask(*begun, ("more", 0, 1), ("balance", [1]), ("look", 0))[2:],
                         [[2], [2, 2, -2], [0, 3, 0, 1, 2]])

    def test_what_needs_numbers_above_eight(self):
        begun = [("begin", 3), ("tell", 0, [1, 0, 0], [0, 3, 0]), ("tell", 0, [0, 1, 0], [0, 0, 3])]
        self.assertEqual(self.answered(*begun), [[0], [0], [-33], [1, 3], [-33]])
        calls = [("may", 1, [0, 0, 0], [0, 0, 0]), ("more", 0, 1), ("range_of", 2), ("sums", [1, 1, 1])]
        self.assertEqual(ask(*begun, *calls)[3:], [[0], [-33], [-33], [-33]])

    def test_told_twice(self):
        twice = [("begin", 2)] + [("tell", 0, [1, 0], [0, 1])] * 2
        self.assertEqual(self.answered(*twice), [[1], [28], [2, 0, 1], [-33], [-33]])
        self.assertEqual(self.answered(*twice, ("tell", 1, [0, 1], [1, 0])), [[0], [0], [-33], [2, 5, 6], [2, 0, 1, 1]])
        self.assertEqual(self.answered(("begin", 2), NEVER, NEVER), [[0], [0], [-33], [2, 1, 2], [1, 0, 1]])

    def test_as_much_taken_backward(self):
        forward, backward = ("tell", 2, [1, 0], [0, 2]), ("tell", 2, [0, 2], [1, 0])
        self.assertEqual(self.answered(("begin", 2), forward, backward), [[1], [4], [2, 0, 1], [-33], [-33]])
        more = ("tell", 0, [1, 0], [0, 2])
        # It is counted as told: backward it cancels with what comes to more, forward it never does.
        self.assertEqual(self.answered(("begin", 2), forward, more), [[0], [0], [-33], [1, 3], [-33]])
        self.assertEqual(self.answered(("begin", 2), backward, more), [[0], [0], [-33], [1, 3], [2, 1, 1]])

    def test_a_clash_of_one_alone(self):
        begun = [("begin", 2), ("tell", 0, [1, 0], [0, 1]), NEVER]
        self.assertEqual(self.answered(*begun), [[0], [0], [-33], [1, 2], [1, 0, 1]])

    def test_two_clashes_that_share_one(self):
        begun = [("begin", 3), ("tell", 0, [1, 0, 0], [0, 1, 0]), ("tell", 0, [0, 1, 0], [1, 0, 0]),
                 ("tell", 1, [0, 1, 0], [0, 0, 1]), ("tell", 1, [0, 0, 1], [1, 0, 0])]
        self.assertEqual(self.answered(*begun), [[0], [0], [-33], [2, 1 + 2, 1 + 4 + 8], [2, 1, 1, 0, 0]])

    def test_a_difference_with_itself(self):
        for kind, answered in (
            (0, [[0], [0], [-33], [1, 1], [1, 1]]),
            (1, [[1], [64], [1, 0], [-33], [-33]]),
            (2, [[1], [64], [1, 0], [-33], [-33]]),
        ):
            for things in ((0, 1, 0, 1), (1, 0, 1, 0), (0, 0, 0, 0), (0, 0, 1, 1)):
                with self.subTest(kind=kind, things=things):
                    self.assertEqual(self.answered(("begin", 2), ("differ", kind, *things)), answered)


class TheLongestLines(unittest.TestCase):
    TOLD = [("tell", 0, [1, 0, 0, 0], [0, 1, 0, 0]), ("tell", 1, [0, 1, 0, 0], [0, 0, 1, 0]),
            ("differ", 1, 0, 1, 2, 3), ("tell", 2, [0, 0, 1, 1], [0, 0, 1, 1]), ("tell", 0, [0, 0, 0, 1], [0, 0, 0, 0]),
            ("tell", 1, [2, 0, 0, 0], [0, 0, 1, 0])]
    ASKED = [("can",), ("ways",), ("least",), ("nth", 3), ("fits", [4, 3, 2, 1]), ("wrong", [1, 1, 1, 8]),
             ("follows", 0, [1, 0, 0, 0], [0, 0, 1, 0]), ("may", 2, [0, 1, 0, 0], [0, 0, 1, 0]), ("more", 0, 2),
             ("range_of", 0), ("sums", [1, 1, 0, 0]), ("clashes",), ("spare",), ("cancels", [1] * 6), ("cancel",),
             ("balance", [1, 2, 3, 0, 1, 2]), ("look", 2), ("state",)]

    def test_every_call_with_six_told(self):
        line = [("begin", 4)] + self.TOLD + self.ASKED
        self.assertEqual(len(line), 25)
        self.assertEqual({NUMBERS[call[0]] for call in line}, set(range(22)) - {NUMBERS["untell"]})
        told = [(0, [1, 0, 0, 0], [0, 1, 0, 0]), (1, [0, 1, 0, 0], [0, 0, 1, 0]), (1, [1, 0, 0, 1], [0, 1, 1, 0])]
        fitting = [x for x in itertools.product(range(1, 9), repeat=4) if all(so(one, x) for one in told)]
        self.assertEqual(ask(*line), [
            [0], [0], [1], [2], [3], [4], [5],
            [1], [len(fitting)], [5, 2, 1, 1, 1], [4, *fitting[3]], [1], [1, 0],
            [1], [1], [2], [2, 8], [3, 15], [-33], [3, 3, 4, 5], [0], [-33],
            [4, 8, -2, -7, 4], [1, 1, 0, 0, 1, 0, 1, 1, 0], [4, 6],
        ])

    def test_one_call_eighteen_times_with_six_told(self):
        never = [("tell", 0, [3, 0, 3, 0], [3, 0, 3, 0])] + self.TOLD[:5]
        for call in self.ASKED:
            for told in (self.TOLD, never):
                with self.subTest(call=call):
                    found = ask(("begin", 4), *told, *[call] * 18)
                    self.assertEqual(len(found), 25)
                    self.assertEqual(found[7:], [found[7]] * 18)

    def test_the_longest_rows(self):
        most = [GREATEST] * 255
        calls = [("begin", 4)] + [("may", 0, most, most), ("sums", most), ("cancels", most), ("balance", most)] * 6
        line = written(calls)
        self.assertEqual(answers(line), [1, 0] + [1, -22] * 24)


if __name__ == "__main__":
    unittest.main()
