"""Promise 4: clashes, cancels, balance, cancel, look, state."""

import unittest

from tests.lines import ask, last

GREATEST = 4294967295
FIRST_MORE = ("tell", 0, [1, 0], [0, 1])
FIRST_NO_LESS = ("tell", 1, [1, 0], [0, 1])
SECOND_MORE = ("tell", 0, [0, 1], [1, 0])
SECOND_NO_LESS = ("tell", 1, [0, 1], [1, 0])
AS_MUCH = ("tell", 2, [1, 0], [0, 1])
NEVER = ("tell", 0, [0, 0], [0, 0])
ALWAYS = ("tell", 1, [0, 0], [0, 0])
# Round from each of three things to the next one.
ROUND = [("tell", 0, [1, 0, 0], [0, 1, 0]), ("tell", 0, [0, 1, 0], [0, 0, 1]), ("tell", 0, [0, 0, 1], [1, 0, 0])]
# By whole numbers up to 13 this can be, by numbers up to 8 it can't.
ABOVE_EIGHT = [("tell", 0, [1, 0, 0], [0, 3, 0]), ("tell", 0, [0, 1, 0], [0, 0, 3])]


class Clashes(unittest.TestCase):
    def test_two_that_do_not_go_together(self):
        self.assertEqual(last(("begin", 2), FIRST_MORE, SECOND_MORE, ("clashes",)), [1, 3])
        self.assertEqual(last(("begin", 2), FIRST_MORE, AS_MUCH, ("clashes",)), [1, 3])
        self.assertEqual(last(("begin", 2), FIRST_NO_LESS, SECOND_MORE, ("clashes",)), [1, 3])

    def test_others_are_not_in_it(self):
        self.assertEqual(last(("begin", 2), ALWAYS, FIRST_MORE, ALWAYS, SECOND_MORE, ("clashes",)), [1, 2 + 8])

    def test_three_of_which_any_two_go_together(self):
        self.assertEqual(last(("begin", 3), *ROUND, ("clashes",)), [1, 7])

    def test_one_alone(self):
        self.assertEqual(last(("begin", 2), NEVER, ("clashes",)), [1, 1])
        self.assertEqual(last(("begin", 2), FIRST_MORE, NEVER, ("clashes",)), [1, 2])
        self.assertEqual(last(("begin", 1), ("tell", 2, [3], [2]), ("clashes",)), [1, 1])

    def test_one_alone_is_in_no_other(self):
        self.assertEqual(last(("begin", 2), FIRST_MORE, NEVER, SECOND_MORE, ("clashes",)), [2, 2, 5])
        self.assertEqual(last(("begin", 2), NEVER, NEVER, ("clashes",)), [2, 1, 2])

    def test_two_that_share_one(self):
        self.assertEqual(last(("begin", 2), FIRST_MORE, SECOND_MORE, SECOND_NO_LESS, ("clashes",)), [2, 3, 5])
        self.assertEqual(last(("begin", 2), FIRST_MORE, SECOND_MORE, AS_MUCH, ("clashes",)), [3, 3, 5, 6])

    def test_told_twice_it_clashes_twice(self):
        self.assertEqual(last(("begin", 2), FIRST_MORE, FIRST_MORE, SECOND_MORE, ("clashes",)), [2, 5, 6])

    def test_rising_by_their_numbers_not_by_how_many_are_in_them(self):
        calls = [("begin", 3), *ROUND, ("tell", 2, [1, 0, 0], [1, 0, 1])]
        self.assertEqual(last(*calls, ("clashes",)), [2, 7, 8])

    def test_what_needs_numbers_above_eight(self):
        self.assertEqual(ask(("begin", 3), *ABOVE_EIGHT, ("clashes",), ("cancel",))[3:], [[1, 3], [-33]])

    def test_as_much_taken_backward(self):
        calls = [("begin", 2), ("tell", 2, [2, 0], [0, 1]), ("tell", 2, [1, 0], [0, 2])]
        self.assertEqual(last(*calls, ("clashes",)), [1, 3])

    def test_six_of_one_alone(self):
        self.assertEqual(last(("begin", 4), *[("tell", 0, [0] * 4, [0] * 4)] * 6, ("clashes",)),
                         [6, 1, 2, 4, 8, 16, 32])

    def test_each_of_three_with_each_of_three(self):
        calls = [("begin", 2)] + [FIRST_MORE] * 3 + [SECOND_MORE] * 3
        self.assertEqual(last(*calls, ("clashes",)), [9, 9, 10, 12, 17, 18, 20, 33, 34, 36])

    def test_they_follow_what_is_told_and_untold(self):
        calls = [("begin", 2), FIRST_MORE, SECOND_MORE, AS_MUCH, ("clashes",), ("untell", 0), ("clashes",),
                 ("untell", 0), ("clashes",)]
        self.assertEqual(ask(*calls)[4:], [[3, 3, 5, 6], [2], [1, 3], [1], [-33]])

    def test_some_fit(self):
        self.assertEqual(last(("begin", 1), ("clashes",)), [-33])
        self.assertEqual(last(("begin", 2), FIRST_MORE, ("clashes",)), [-33])

    def test_one_alone_fits(self):
        calls = [("begin", 3), ("tell", 0, [1, 0, 0], [0, 3, 0]), ("tell", 0, [0, 1, 0], [0, 0, 1]),
                 ("tell", 1, [1, 0, 0], [0, 3, 2]), ("ways",), ("clashes",)]
        self.assertEqual(ask(*calls)[4:], [[1], [-33]])


class NotHowOften(unittest.TestCase):
    def test_what_is_not_right_is_refused(self):
        for told, rows in (
            ([], ([0], [4], [0] * 255)),
            ([FIRST_MORE], ([], [4], [0, 0], [GREATEST])),
            ([FIRST_MORE, NEVER], ([], [1], [1, 1, 1], [4, 0], [0, 4], [1, GREATEST], [0] * 255)),
            ([NEVER] * 6, ([1] * 5, [1] * 7, [0, 0, 0, 0, 0, 4])),
        ):
            for row in rows:
                with self.subTest(told=told, row=row):
                    calls = [("begin", 2), *told, ("cancels", row), ("balance", row), ("state",)]
                    self.assertEqual(ask(*calls)[-3:], [[-22], [-22], [2, len(told)]])

    def test_none_and_three_times_are_right(self):
        for row in ([0, 0], [3, 3], [0, 3], [3, 0]):
            self.assertNotIn([-22], ask(("begin", 2), FIRST_MORE, NEVER, ("cancels", row), ("balance", row)))


class Cancels(unittest.TestCase):
    def test_one_below_and_none_above(self):
        calls = [("begin", 2), ("tell", 1, [0, 1], [1, 1]), ("cancels", [1]), ("cancels", [3]), ("cancels", [0])]
        self.assertEqual(ask(*calls)[2:], [[1], [1], [0]])
        calls = [("begin", 2), ("tell", 2, [1, 0], [1, 2]), ("cancels", [1]), ("cancels", [2])]
        self.assertEqual(ask(*calls)[2:], [[1], [1]])

    def test_one_above(self):
        calls = [("begin", 2), ("tell", 0, [1, 0], [0, 3]), ("tell", 1, [1, 1], [0, 0])]
        self.assertEqual(ask(*calls, ("cancels", [1, 0]), ("cancels", [1, 3]), ("cancels", [0, 1]))[3:], [[0]] * 3)

    def test_all_even_and_one_comes_to_more(self):
        calls = [("begin", 2), FIRST_MORE, SECOND_NO_LESS]
        self.assertEqual(ask(*calls, ("cancels", [1, 1]), ("cancels", [3, 3]), ("cancels", [1, 2]))[3:],
                         [[1], [1], [0]])

    def test_all_even_and_none_comes_to_more(self):
        self.assertEqual(last(("begin", 2), FIRST_NO_LESS, SECOND_NO_LESS, ("cancels", [1, 1])), [0])
        self.assertEqual(last(("begin", 2), AS_MUCH, SECOND_NO_LESS, ("cancels", [2, 2])), [0])

    def test_what_comes_to_more_must_not_be_there_no_times(self):
        calls = [("begin", 2), NEVER, FIRST_NO_LESS, SECOND_NO_LESS]
        self.assertEqual(ask(*calls, ("cancels", [0, 1, 1]), ("cancels", [1, 1, 1]), ("cancels", [1, 0, 0]))[4:],
                         [[0], [1], [1]])

    def test_no_times_at_all(self):
        self.assertEqual(last(("begin", 2), NEVER, SECOND_MORE, ("cancels", [0, 0])), [0])

    def test_nothing_told(self):
        self.assertEqual(last(("begin", 4), ("cancels", [])), [0])

    def test_it_is_taken_so_often_and_no_less(self):
        # Once and once the first thing is even, and the second is below by two.
        calls = [("begin", 2), ("tell", 0, [2, 0], [0, 3]), ("tell", 0, [0, 1], [2, 0])]
        self.assertEqual(ask(*calls, ("cancels", [1, 1]), ("cancels", [1, 2]), ("cancels", [1, 3]),
                             ("cancels", [2, 1]))[3:], [[1], [1], [1], [0]])

    def test_as_much_is_not_taken_backward(self):
        calls = [("begin", 2), AS_MUCH, FIRST_MORE]
        asked = [("cancels", [one, other]) for one in range(4) for other in range(4)]
        self.assertEqual(ask(*calls, *asked)[3:], [[0]] * 16)
        self.assertEqual(last(("begin", 2), AS_MUCH, SECOND_MORE, ("cancels", [1, 1])), [1])

    def test_a_difference_with_itself(self):
        for kind, answer in ((0, 1), (1, 0), (2, 0)):
            self.assertEqual(last(("begin", 2), ("differ", kind, 0, 1, 0, 1), ("cancels", [1])), [answer])


class Balance(unittest.TestCase):
    def test_first_sides_less_second_sides(self):
        calls = [("begin", 3), ("tell", 0, [3, 0, 1], [0, 2, 1]), ("balance", [1]), ("balance", [2]), ("balance", [0])]
        self.assertEqual(ask(*calls)[2:], [[3, 3, -2, 0], [3, 6, -4, 0], [3, 0, 0, 0]])

    def test_each_so_often(self):
        calls = [("begin", 2), ("tell", 2, [1, 0], [0, 2]), ("tell", 1, [3, 1], [1, 3]), ("differ", 0, 0, 1, 1, 0)]
        self.assertEqual(
            ask(*calls, ("balance", [1, 0, 0]), ("balance", [0, 1, 0]), ("balance", [0, 0, 1]), ("balance", [3, 2, 1]))
            [4:],
            [[2, 1, -2], [2, 2, -2], [2, 2, -2], [2, 9, -12]],
        )

    def test_nothing_told(self):
        for n in (1, 2, 3, 4):
            self.assertEqual(last(("begin", n), ("balance", [])), [n] + [0] * n)

    def test_the_most_and_the_least(self):
        for first, second, each in (([3] * 4, [0] * 4, 54), ([0] * 4, [3] * 4, -54)):
            calls = [("begin", 4)] + [("tell", 1, first, second)] * 6
            self.assertEqual(last(*calls, ("balance", [3] * 6)), [4] + [each] * 4)

    def test_the_kind_does_not_count(self):
        for kind in (0, 1, 2):
            self.assertEqual(last(("begin", 1), ("tell", kind, [0], [2]), ("balance", [3])), [1, -6])

    def test_it_is_told_where_some_fit_and_where_none_do(self):
        self.assertEqual(ask(("begin", 2), FIRST_MORE, ("balance", [1]), NEVER, ("balance", [1, 1]))[2:],
                         [[2, 1, -1], [1], [2, 1, -1]])


class Cancel(unittest.TestCase):
    def test_each_once(self):
        self.assertEqual(last(("begin", 2), FIRST_MORE, SECOND_MORE, ("cancel",)), [2, 1, 1])
        self.assertEqual(last(("begin", 3), *ROUND, ("cancel",)), [3, 1, 1, 1])

    def test_one_more_often(self):
        # x0 is no less than 2 x1, and 3 x1 is no less than 2 x0: it takes two of the first and one of the second.
        calls = [("begin", 2), ("tell", 1, [1, 0], [0, 2]), ("tell", 1, [0, 3], [2, 0]), ("cancel",)]
        self.assertEqual(last(*calls), [3, 2, 1])

    def test_one_thrice(self):
        calls = [("begin", 2), ("tell", 0, [1, 0], [0, 1]), ("tell", 1, [0, 3], [3, 0]), ("cancel",)]
        self.assertEqual(last(*calls), [4, 3, 1])

    def test_several_more_often(self):
        calls = [("begin", 3), ("tell", 0, [1, 0, 0], [0, 1, 0]), ("tell", 1, [0, 2, 0], [0, 0, 3]),
                 ("tell", 1, [0, 0, 3], [2, 0, 0]), ("can",), ("cancel",)]
        self.assertEqual(ask(*calls)[4:], [[0], [4, 2, 1, 1]])

    def test_it_would_take_more_than_thrice(self):
        # Twice, six times and thrice it would cancel, and so often alone.
        calls = [("begin", 3), ("tell", 1, [3, 0, 0], [0, 3, 0]), ("tell", 1, [0, 1, 0], [0, 0, 1]),
                 ("tell", 0, [0, 0, 2], [2, 0, 0])]
        self.assertEqual(ask(*calls, ("can",), ("clashes",), ("cancel",), ("cancels", [2, 6, 3]))[4:],
                         [[0], [1, 7], [-33], [-22]])

    def test_the_least_sum_goes_ahead_of_the_order(self):
        # Without the first one it takes two; with it, one.
        self.assertEqual(last(("begin", 2), NEVER, FIRST_MORE, SECOND_MORE, ("cancel",)), [1, 1, 0, 0])
        self.assertEqual(last(("begin", 3), ("tell", 1, [0, 0, 0], [0, 0, 1]), *ROUND, ("cancel",)), [1, 1, 0, 0, 0])

    def test_the_first_of_several_with_the_same_sum(self):
        self.assertEqual(last(("begin", 2), NEVER, NEVER, NEVER, ("cancel",)), [1, 0, 0, 1])
        self.assertEqual(last(("begin", 2), FIRST_MORE, SECOND_MORE, SECOND_NO_LESS, ("cancel",)), [2, 1, 0, 1])
        self.assertEqual(last(("begin", 2), SECOND_MORE, SECOND_MORE, FIRST_MORE, FIRST_MORE, ("cancel",)),
                         [2, 0, 1, 0, 1])

    def test_one_below_is_enough(self):
        self.assertEqual(last(("begin", 2), ("tell", 1, [1, 0], [1, 1]), ("cancel",)), [1, 1])
        self.assertEqual(last(("begin", 2), ("tell", 2, [1, 0], [1, 1]), ("cancel",)), [1, 1])

    def test_as_much_is_not_taken_backward(self):
        self.assertEqual(ask(("begin", 2), AS_MUCH, FIRST_MORE, ("can",), ("clashes",), ("cancel",))[3:],
                         [[0], [1, 3], [-33]])
        self.assertEqual(last(("begin", 2), AS_MUCH, SECOND_MORE, ("cancel",)), [2, 1, 1])
        self.assertEqual(last(("begin", 2), ("tell", 2, [0, 1], [1, 0]), FIRST_MORE, ("cancel",)), [2, 1, 1])
        self.assertEqual(ask(("begin", 1), ("tell", 2, [2], [1]), ("can",), ("cancel",))[2:], [[0], [-33]])

    def test_what_needs_numbers_above_eight(self):
        self.assertEqual(ask(("begin", 3), *ABOVE_EIGHT, ("can",), ("cancel",))[3:], [[0], [-33]])

    def test_six_of_which_the_last_alone_cancels(self):
        calls = [("begin", 4)] + [("tell", 1, [1, 1, 1, 1], [0, 0, 0, 0])] * 5 + [("tell", 0, [0] * 4, [0, 0, 0, 3])]
        self.assertEqual(last(*calls, ("cancel",)), [1, 0, 0, 0, 0, 0, 1])

    def test_four_among_six(self):
        calls = [("begin", 4), ("tell", 0, [1, 0, 0, 0], [0, 1, 0, 0]), ("tell", 1, [1, 1, 1, 1], [0, 0, 0, 0]),
                 ("tell", 0, [0, 1, 0, 0], [0, 0, 1, 0]), ("tell", 2, [0, 0, 1, 0], [0, 0, 0, 1]),
                 ("tell", 1, [3, 3, 3, 3], [1, 1, 1, 1]), ("tell", 1, [0, 0, 0, 1], [1, 0, 0, 0])]
        self.assertEqual(ask(*calls, ("cancel",), ("clashes",))[7:], [[4, 1, 0, 1, 1, 0, 1], [1, 1 + 4 + 8 + 32]])

    def test_a_thing_on_both_sides(self):
        calls = [("begin", 2), ("tell", 0, [2, 0], [1, 1]), ("tell", 1, [1, 3], [3, 1]), ("cancel",)]
        self.assertEqual(last(*calls), [3, 2, 1])

    def test_it_never_cancels(self):
        self.assertEqual(last(("begin", 1), ("cancel",)), [-33])
        self.assertEqual(last(("begin", 2), FIRST_MORE, ("cancel",)), [-33])
        self.assertEqual(last(("begin", 2), FIRST_NO_LESS, SECOND_NO_LESS, ("cancel",)), [-33])

    def test_a_difference_with_itself(self):
        for kind, answer in ((0, [1, 1]), (1, [-33]), (2, [-33])):
            self.assertEqual(last(("begin", 3), ("differ", kind, 2, 1, 2, 1), ("cancel",)), answer)


class Look(unittest.TestCase):
    def test_the_kind_and_both_sides(self):
        calls = [("begin", 2), ("tell", 0, [1, 0], [2, 3]), ("tell", 1, [0, 0], [0, 0]), ("tell", 2, [3, 1], [3, 1])]
        self.assertEqual(ask(*calls, ("look", 2), ("look", 0), ("look", 1))[4:],
                         [[2, 3, 1, 3, 1], [0, 1, 0, 2, 3], [1, 0, 0, 0, 0]])

    def test_so_many_numbers_as_there_are_things(self):
        for n in (1, 2, 3, 4):
            calls = [("begin", n), ("tell", 1, [3, 2, 1, 0][:n], [0, 1, 2, 3][:n]), ("look", 0)]
            self.assertEqual(last(*calls), [1] + [3, 2, 1, 0][:n] + [0, 1, 2, 3][:n])

    def test_of_a_difference(self):
        for things, first, second in (
            ((0, 1, 2, 3), [1, 0, 0, 1], [0, 1, 1, 0]),
            ((0, 1, 1, 0), [2, 0, 0, 0], [0, 2, 0, 0]),
            ((0, 1, 2, 0), [2, 0, 0, 0], [0, 1, 1, 0]),
            ((3, 2, 2, 1), [0, 1, 0, 1], [0, 0, 2, 0]),
            ((0, 1, 0, 1), [1, 1, 0, 0], [1, 1, 0, 0]),
            ((2, 2, 2, 2), [0, 0, 2, 0], [0, 0, 2, 0]),
        ):
            for kind in (0, 1, 2):
                self.assertEqual(last(("begin", 4), ("differ", kind, *things), ("look", 0)), [kind] + first + second)

    def test_if_one_goes_those_behind_it_are_one_less(self):
        calls = [("begin", 1), ("tell", 0, [3], [0]), ("tell", 1, [2], [1]), ("tell", 2, [1], [1]), ("untell", 1)]
        self.assertEqual(ask(*calls, ("look", 0), ("look", 1), ("look", 2))[5:], [[0, 3, 0], [2, 1, 1], [-2]])

    def test_what_is_not_told_is_refused(self):
        self.assertEqual(last(("begin", 1), ("look", 0)), [-2])
        for t in (1, 2, GREATEST):
            self.assertEqual(last(("begin", 1), ("tell", 0, [1], [0]), ("look", t)), [-2])
        self.assertEqual(ask(("begin", 2), *[NEVER] * 6, ("look", 5), ("look", 6))[7:], [[0, 0, 0, 0, 0], [-2]])

    def test_a_begin_leaves_nothing_to_look_at(self):
        self.assertEqual(last(("begin", 2), NEVER, ("begin", 2), ("look", 0)), [-2])


class State(unittest.TestCase):
    def test_how_many_things(self):
        for n in (1, 2, 3, 4):
            self.assertEqual(last(("begin", n), ("state",)), [n, 0])

    def test_how_many_are_told(self):
        calls = [("begin", 2)]
        for count in range(1, 7):
            calls += [FIRST_MORE, ("state",)]
        self.assertEqual(ask(*calls)[2::2], [[2, count] for count in range(1, 7)])

    def test_one_goes(self):
        calls = [("begin", 2), FIRST_MORE, ("differ", 0, 0, 0, 0, 0), ("state",), ("untell", 0), ("state",)]
        self.assertEqual(ask(*calls)[3:], [[2, 2], [1], [2, 1]])

    def test_another_begin(self):
        self.assertEqual(ask(("begin", 2), NEVER, ("begin", 3), ("state",), ("begin", 5), ("state",))[2:],
                         [[0], [3, 0], [-22], [3, 0]])


if __name__ == "__main__":
    unittest.main()
