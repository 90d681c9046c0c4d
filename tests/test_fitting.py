"""Promises 2 and 3: can, ways, least, nth, fits, wrong; follows."""

import unittest

from tests.lines import ask, last

GREATEST = 4294967295
FIRST_MORE = ("tell", 0, [1, 0], [0, 1])
SECOND_MORE = ("tell", 0, [0, 1], [1, 0])
NEVER = ("tell", 0, [0, 0], [0, 0])
AS_MUCH = ("tell", 2, [1, 0], [0, 1])


class CanAndWays(unittest.TestCase):
    def test_nothing_told(self):
        for n in (1, 2, 3, 4):
            self.assertEqual(ask(("begin", n), ("can",), ("ways",)), [[0], [1], [8 ** n]])

    def test_some_fit(self):
        self.assertEqual(ask(("begin", 2), FIRST_MORE, ("can",), ("ways",)), [[0], [0], [1], [28]])

    def test_all_that_is_told_counts(self):
        calls = [("begin", 3), ("tell", 0, [1, 0, 0], [0, 1, 0]), ("tell", 0, [0, 1, 0], [0, 0, 1])]
        self.assertEqual(last(*calls, ("ways",)), [56])

    def test_one_alone_fits(self):
        # x0 is above 3 x1, x1 above x2: 7, 2, 1 and 8, 2, 1; the last that is told leaves 8, 2, 1.
        calls = [("begin", 3), ("tell", 0, [1, 0, 0], [0, 3, 0]), ("tell", 0, [0, 1, 0], [0, 0, 1]), ("ways",),
                 ("tell", 2, [1, 0, 0], [0, 3, 2]), ("ways",), ("can",), ("nth", 0), ("nth", 1)]
        self.assertEqual(ask(*calls)[3:], [[2], [2], [1], [1], [3, 8, 2, 1], [-33]])

    def test_none_fit(self):
        self.assertEqual(ask(("begin", 2), FIRST_MORE, SECOND_MORE, ("can",), ("ways",))[3:], [[0], [0]])


class Least(unittest.TestCase):
    def test_nothing_told(self):
        for n in (1, 2, 3, 4):
            self.assertEqual(last(("begin", n), ("least",)), [n] + [1] * n)

    def test_the_least_sum_goes_ahead_of_the_order(self):
        # The third is 4 at the least, so 3 x0 + x1 is 8 at the least: 1, 5 is first, 2, 2 and 3, 1 have the least sum.
        calls = [("begin", 4), ("tell", 0, [0, 0, 1, 0], [0, 0, 0, 3]), ("tell", 1, [3, 1, 0, 0], [0, 0, 2, 0])]
        self.assertEqual(ask(*calls, ("nth", 0), ("least",))[3:], [[4, 1, 5, 4, 1], [9, 2, 2, 4, 1]])

    def test_the_first_of_several_with_the_same_sum(self):
        # 1, 2, 1 and 2, 1, 1 come to 4.
        calls = [("begin", 3), ("tell", 0, [1, 1, 0], [0, 0, 2])]
        self.assertEqual(ask(*calls, ("fits", [2, 1, 1]), ("least",))[2:], [[1], [4, 1, 2, 1]])
        # 1, 1, 2 and 1, 2, 1 do.
        calls = [("begin", 3), ("tell", 0, [0, 1, 1], [2, 0, 0])]
        self.assertEqual(ask(*calls, ("fits", [1, 2, 1]), ("least",))[2:], [[1], [4, 1, 1, 2]])

    def test_it_follows_what_is_told_and_untold(self):
        calls = [("begin", 2), ("least",), FIRST_MORE, ("least",), ("tell", 1, [1, 0], [0, 3]), ("least",),
                 ("untell", 0), ("untell", 0), ("least",)]
        self.assertEqual(ask(*calls)[1:], [[2, 1, 1], [0], [3, 2, 1], [1], [4, 3, 1], [1], [0], [2, 1, 1]])

    def test_none_fit(self):
        self.assertEqual(last(("begin", 2), NEVER, ("least",)), [-33])


class Nth(unittest.TestCase):
    def test_in_order(self):
        calls = [("begin", 2)] + [("nth", k) for k in (0, 1, 7, 8, 62, 63)]
        self.assertEqual(ask(*calls)[1:], [[2, 1, 1], [2, 1, 2], [2, 1, 8], [2, 2, 1], [2, 8, 7], [2, 8, 8]])

    def test_the_first_the_last_and_behind_it(self):
        for n in (1, 2, 3, 4):
            self.assertEqual(
                ask(("begin", n), ("nth", 0), ("nth", 8 ** n - 1), ("nth", 8 ** n), ("nth", GREATEST)),
                [[0], [n] + [1] * n, [n] + [8] * n, [-33], [-33]],
            )

    def test_only_those_that_fit(self):
        calls = [("begin", 2), FIRST_MORE] + [("nth", k) for k in (0, 1, 2, 3, 27, 28)]
        self.assertEqual(ask(*calls)[2:], [[2, 2, 1], [2, 3, 1], [2, 3, 2], [2, 4, 1], [2, 8, 7], [-33]])

    def test_none_fit(self):
        self.assertEqual(ask(("begin", 2), NEVER, ("nth", 0), ("nth", 1))[2:], [[-33], [-33]])


class FitsAndWrong(unittest.TestCase):
    TOLD = [("begin", 2), FIRST_MORE, ("tell", 1, [0, 2], [1, 0]), ("tell", 2, [2, 0], [0, 3])]

    def test_nothing_told(self):
        self.assertEqual(ask(("begin", 1), ("fits", [8]), ("wrong", [8])), [[0], [1], [0]])

    def test_they_fit(self):
        self.assertEqual(ask(*self.TOLD, ("fits", [3, 2]), ("wrong", [3, 2]))[4:], [[1], [0]])

    def test_they_do_not(self):
        for numbers, these in (
            ([1, 1], [0, 2]), ([3, 1], [1, 2]), ([2, 1], [2]), ([1, 2], [0, 2]), ([8, 1], [1, 2]),
        ):
            with self.subTest(numbers=numbers):
                self.assertEqual(
                    ask(*self.TOLD, ("fits", numbers), ("wrong", numbers))[4:], [[0], [len(these)] + these]
                )

    def test_all_six_are_wrong(self):
        calls = [("begin", 1)] + [("tell", 0, [0], [1])] * 6
        self.assertEqual(last(*calls, ("wrong", [1])), [6, 0, 1, 2, 3, 4, 5])

    def test_the_least_and_the_greatest_are_numbers(self):
        for numbers in ([1, 1], [1, 8], [8, 1], [8, 8]):
            self.assertEqual(ask(("begin", 2), ("fits", numbers), ("wrong", numbers)), [[0], [1], [0]])

    def test_what_is_no_numbers_is_refused(self):
        for numbers in ([], [1], [1, 1, 1], [1] * 255, [0, 1], [1, 0], [9, 1], [1, 9], [GREATEST, 1]):
            with self.subTest(numbers=numbers):
                self.assertEqual(ask(("begin", 2), ("fits", numbers), ("wrong", numbers)), [[0], [-22], [-22]])
                self.assertEqual(ask(("begin", 2), NEVER, ("fits", numbers), ("wrong", numbers))[2:], [[-22], [-22]])


class Follows(unittest.TestCase):
    def test_what_was_told_follows(self):
        for kind in (0, 1, 2):
            self.assertEqual(last(("begin", 2), ("tell", kind, [1, 0], [0, 1]), ("follows", kind, [1, 0], [0, 1])), [1])

    def test_of_each_kind_from_each(self):
        follow = {0: [1, 1, 0], 1: [0, 1, 0], 2: [0, 1, 1]}
        for told in follow:
            calls = [("begin", 2), ("tell", told, [1, 0], [0, 1])]
            calls += [("follows", kind, [1, 0], [0, 1]) for kind in (0, 1, 2)]
            self.assertEqual(ask(*calls)[2:], [[one] for one in follow[told]])

    def test_the_sides_in_their_order(self):
        calls = [("begin", 2), FIRST_MORE, ("follows", 0, [0, 1], [1, 0]), ("follows", 1, [0, 1], [1, 0])]
        self.assertEqual(ask(*calls)[2:], [[0], [0]])

    def test_from_several_together(self):
        calls = [("begin", 3), ("tell", 0, [1, 0, 0], [0, 1, 0]), ("tell", 1, [0, 1, 0], [0, 0, 1])]
        self.assertEqual(last(*calls, ("follows", 0, [1, 0, 0], [0, 0, 1])), [1])
        self.assertEqual(last(*calls, ("untell", 1), ("follows", 0, [1, 0, 0], [0, 0, 1])), [0])

    def test_nothing_told(self):
        calls = [("begin", 2), ("follows", 0, [1, 0], [0, 0]), ("follows", 0, [3, 0], [0, 1]),
                 ("follows", 1, [0, 0], [0, 0]), ("follows", 2, [2, 1], [2, 1]), ("follows", 0, [2, 1], [2, 1])]
        self.assertEqual(ask(*calls)[1:], [[1], [0], [1], [1], [0]])

    def test_numbers_above_eight_are_not_asked(self):
        # x0 = 3 x1 leaves x1 at 1 or 2, and x1 = 3 x2 then can't be; so 3 x2 > x1 is the least that follows.
        calls = [("begin", 3), ("tell", 2, [1, 0, 0], [0, 3, 0]), ("follows", 0, [0, 0, 3], [0, 1, 0])]
        self.assertEqual(last(*calls), [1])

    def test_it_tells_nothing(self):
        calls = [("begin", 2), ("follows", 2, [1, 0], [0, 1]), ("ways",), ("untell", 0)]
        self.assertEqual(ask(*calls), [[0], [0], [64], [-2]])

    def test_it_is_asked_where_six_are_told(self):
        calls = [("begin", 2)] + [FIRST_MORE] * 6
        self.assertEqual(last(*calls, ("follows", 0, [1, 0], [0, 1])), [1])

    def test_none_fit(self):
        for kind in (0, 1, 2):
            self.assertEqual(last(("begin", 2), NEVER, ("follows", kind, [1, 0], [0, 1])), [-33])

    def test_what_is_not_right_is_refused_first(self):
        for told in ([], [NEVER]):
            for kind in (3, GREATEST):
                self.assertEqual(last(("begin", 2), *told, ("follows", kind, [1, 0], [0, 1])), [-22])
            for side in ([], [1], [1, 1, 1], [0] * 255, [4, 0], [0, 4], [GREATEST, 0]):
                self.assertEqual(last(("begin", 2), *told, ("follows", 0, side, [0, 1])), [-22])
                self.assertEqual(last(("begin", 2), *told, ("follows", 0, [0, 1], side)), [-22])


class Corners(unittest.TestCase):
    def test_one_thing(self):
        calls = [("begin", 1), ("tell", 0, [2], [1]), ("ways",), ("tell", 2, [3], [3]), ("ways",), ("least",),
                 ("nth", 7), ("follows", 0, [3], [2]), ("tell", 1, [0], [1]), ("can",), ("wrong", [5])]
        self.assertEqual(ask(*calls), [[0], [0], [8], [1], [8], [1, 1], [1, 8], [1], [2], [0], [1, 2]])

    def test_sides_alike_and_both_empty(self):
        for side in ([0, 0], [1, 0], [3, 3]):
            for kind, count in ((0, 0), (1, 64), (2, 64)):
                self.assertEqual(last(("begin", 2), ("tell", kind, side, side), ("ways",)), [count])

    def test_one_side_empty(self):
        for kind, first_empty, second_empty in ((0, 0, 64), (1, 0, 64), (2, 0, 0)):
            self.assertEqual(last(("begin", 2), ("tell", kind, [0, 0], [0, 1]), ("ways",)), [first_empty])
            self.assertEqual(last(("begin", 2), ("tell", kind, [0, 1], [0, 0]), ("ways",)), [second_empty])

    def test_a_thing_on_both_sides(self):
        calls = [("begin", 2), ("tell", 0, [3, 0], [1, 1]), ("follows", 0, [2, 0], [0, 1]), ("nth", 0), ("nth", 1)]
        self.assertEqual(ask(*calls)[2:], [[1], [2, 1, 1], [2, 2, 1]])

    def test_what_needs_numbers_above_eight(self):
        calls = [("begin", 3), ("tell", 0, [1, 0, 0], [0, 3, 0]), ("can",), ("tell", 0, [0, 1, 0], [0, 0, 3]), ("can",),
                 ("ways",), ("least",), ("nth", 0), ("follows", 1, [1, 0, 0], [1, 0, 0]), ("wrong", [8, 2, 1])]
        self.assertEqual(ask(*calls)[2:], [[1], [1], [0], [0], [-33], [-33], [-33], [1, 1]])

    def test_told_twice(self):
        calls = [("begin", 2), FIRST_MORE, FIRST_MORE, ("ways",), ("wrong", [1, 1])]
        self.assertEqual(ask(*calls)[1:], [[0], [1], [28], [2, 0, 1]])

    def test_as_much_taken_backward(self):
        forward = [("begin", 2), ("tell", 2, [2, 0], [0, 3])]
        self.assertEqual(ask(*forward, ("follows", 2, [0, 3], [2, 0]), ("tell", 2, [0, 3], [2, 0]), ("ways",))[2:],
                         [[1], [1], [2]])

    def test_none_agree_with_one_alone(self):
        self.assertEqual(ask(("begin", 2), AS_MUCH, NEVER, ("can",), ("untell", 1), ("can",))[3:], [[0], [1], [1]])

    def test_two_that_do_not_go_together_share_one(self):
        calls = [("begin", 2), FIRST_MORE, SECOND_MORE, AS_MUCH, ("can",), ("untell", 0), ("can",), ("untell", 0),
                 ("can",), ("ways",)]
        self.assertEqual(ask(*calls)[4:], [[0], [2], [0], [1], [1], [8]])


if __name__ == "__main__":
    unittest.main()
