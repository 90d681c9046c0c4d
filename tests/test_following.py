"""Promise 3 beside follows: may, more, range_of, sums, spare."""

import unittest

from tests.lines import ask, last

GREATEST = 4294967295
FIRST_MORE = ("tell", 0, [1, 0], [0, 1])
FIRST_NO_LESS = ("tell", 1, [1, 0], [0, 1])
SECOND_MORE = ("tell", 0, [0, 1], [1, 0])
AS_MUCH = ("tell", 2, [1, 0], [0, 1])
NEVER = ("tell", 0, [0, 0], [0, 0])
ALWAYS = ("tell", 1, [0, 0], [0, 0])
NO_SIDES = ([], [1], [1, 1, 1], [0] * 255, [4, 0], [0, 4], [GREATEST, 0])


class May(unittest.TestCase):
    def test_of_each_kind_from_each(self):
        forward = {0: [1, 1, 0], 1: [1, 1, 1], 2: [0, 1, 1]}
        backward = {0: [0, 0, 0], 1: [0, 1, 1], 2: [0, 1, 1]}
        for told in (0, 1, 2):
            calls = [("begin", 2), ("tell", told, [1, 0], [0, 1])]
            calls += [("may", kind, [1, 0], [0, 1]) for kind in (0, 1, 2)]
            calls += [("may", kind, [0, 1], [1, 0]) for kind in (0, 1, 2)]
            with self.subTest(told=told):
                self.assertEqual(ask(*calls)[2:], [[one] for one in forward[told] + backward[told]])

    def test_some_do_and_some_do_not(self):
        calls = [("begin", 2), FIRST_MORE, ("may", 0, [1, 0], [0, 3]), ("follows", 0, [1, 0], [0, 3])]
        self.assertEqual(ask(*calls)[2:], [[1], [0]])

    def test_one_alone_that_does_is_enough(self):
        # 5, 1, 1 and 7, 1, 2 and 8, 2, 1 fit; the last alone has more of the second than of the third.
        calls = [("begin", 3), ("tell", 2, [1, 0, 0], [0, 3, 2]), ("ways",), ("may", 0, [0, 1, 0], [0, 0, 1]),
                 ("may", 2, [0, 1, 0], [0, 0, 2]), ("may", 0, [0, 1, 0], [0, 0, 2])]
        self.assertEqual(ask(*calls)[2:], [[3], [1], [1], [0]])

    def test_nothing_told(self):
        calls = [("begin", 2), ("may", 0, [0, 1], [1, 0]), ("may", 0, [0, 0], [0, 0]), ("may", 1, [0, 0], [0, 0]),
                 ("may", 2, [0, 0], [0, 0]), ("may", 1, [0, 0], [1, 0]), ("may", 2, [3, 0], [0, 2])]
        self.assertEqual(ask(*calls)[1:], [[1], [0], [1], [1], [0], [1]])

    def test_none_fit(self):
        for kind in (0, 1, 2):
            self.assertEqual(last(("begin", 2), NEVER, ("may", kind, [1, 0], [0, 1])), [0])
            self.assertEqual(last(("begin", 2), NEVER, ("may", kind, [0, 0], [0, 0])), [0])

    def test_it_tells_nothing(self):
        self.assertEqual(ask(("begin", 2), ("may", 2, [1, 0], [0, 1]), ("ways",), ("state",)), [[0], [1], [64], [2, 0]])

    def test_it_is_asked_where_six_are_told(self):
        self.assertEqual(last(("begin", 2), *[FIRST_MORE] * 6, ("may", 1, [0, 2], [1, 0])), [1])

    def test_what_is_not_right_is_refused(self):
        for told in ([], [NEVER], [FIRST_MORE] * 6):
            for kind in (3, GREATEST):
                self.assertEqual(last(("begin", 2), *told, ("may", kind, [1, 0], [0, 1])), [-22])
            for side in NO_SIDES:
                self.assertEqual(last(("begin", 2), *told, ("may", 0, side, [0, 1])), [-22])
                self.assertEqual(last(("begin", 2), *told, ("may", 0, [0, 1], side)), [-22])


class More(unittest.TestCase):
    def test_by_what_is_told(self):
        for told, there, back in ((FIRST_MORE, 2, 0), (FIRST_NO_LESS, 1, 0), (AS_MUCH, 1, 1), (SECOND_MORE, 0, 2),
                                  (ALWAYS, 0, 0)):
            with self.subTest(told=told):
                self.assertEqual(ask(("begin", 2), told, ("more", 0, 1), ("more", 1, 0))[2:], [[there], [back]])

    def test_nothing_told(self):
        self.assertEqual(ask(("begin", 3), ("more", 0, 1), ("more", 2, 0), ("more", 1, 2))[1:], [[0], [0], [0]])

    def test_a_thing_and_itself(self):
        for n in (1, 2, 3, 4):
            for thing in range(n):
                self.assertEqual(last(("begin", n), ("more", thing, thing)), [1])

    def test_from_several_together(self):
        calls = [("begin", 3), ("tell", 0, [1, 0, 0], [0, 1, 0]), ("tell", 1, [0, 1, 0], [0, 0, 1])]
        self.assertEqual(ask(*calls, ("more", 0, 2), ("more", 1, 2), ("more", 2, 0), ("more", 2, 1))[3:],
                         [[2], [1], [0], [0]])

    def test_things_that_are_compared_by_a_third(self):
        # 3, 1 and 6, 2 are left for the first two, and the third is above 2 or above 4.
        calls = [("begin", 3), ("tell", 2, [1, 0, 0], [0, 3, 0]), ("tell", 0, [0, 0, 1], [0, 2, 0])]
        self.assertEqual(ask(*calls, ("more", 2, 1), ("more", 0, 2))[3:], [[2], [0]])
        # The third is no less than 3 x1, which the first is.
        calls = [("begin", 4), ("tell", 2, [1, 0, 0, 0], [0, 3, 0, 0]), ("tell", 1, [0, 0, 1, 0], [0, 3, 0, 0]),
                 ("tell", 2, [0, 1, 0, 0], [0, 0, 0, 1])]
        self.assertEqual(ask(*calls, ("more", 2, 0), ("more", 0, 3), ("more", 3, 1))[4:], [[1], [2], [1]])

    def test_none_fit(self):
        self.assertEqual(ask(("begin", 2), NEVER, ("more", 0, 1), ("more", 1, 1))[2:], [[-33], [-33]])

    def test_things_that_are_not_there_are_refused_first(self):
        for n in (1, 2, 3, 4):
            for told in ([], [("tell", 0, [0] * n, [0] * n)]):
                for none_such in (n, n + 1, GREATEST):
                    calls = [("more", 0, none_such), ("more", none_such, 0), ("more", none_such, none_such)]
                    self.assertEqual(ask(("begin", n), *told, *calls)[-3:], [[-2]] * 3)


class Range(unittest.TestCase):
    def test_nothing_told(self):
        for n in (1, 2, 3, 4):
            for thing in range(n):
                self.assertEqual(last(("begin", n), ("range_of", thing)), [1, 8])

    def test_by_what_is_told(self):
        self.assertEqual(ask(("begin", 2), FIRST_MORE, ("range_of", 0), ("range_of", 1))[2:], [[2, 8], [1, 7]])
        self.assertEqual(ask(("begin", 2), ("tell", 2, [2, 0], [0, 3]), ("range_of", 0), ("range_of", 1))[2:],
                         [[3, 6], [2, 4]])

    def test_each_thing_has_its_own(self):
        calls = [("begin", 4), ("tell", 0, [1, 0, 0, 0], [0, 1, 0, 0]), ("tell", 0, [0, 1, 0, 0], [0, 0, 1, 0]),
                 ("tell", 0, [0, 0, 1, 0], [0, 0, 0, 1])]
        calls += [("range_of", thing) for thing in range(4)]
        self.assertEqual(ask(*calls)[4:], [[4, 8], [3, 7], [2, 6], [1, 5]])

    def test_one_alone_fits(self):
        calls = [("begin", 3), ("tell", 0, [1, 0, 0], [0, 3, 0]), ("tell", 0, [0, 1, 0], [0, 0, 1]),
                 ("tell", 1, [1, 0, 0], [0, 3, 2])]
        self.assertEqual(ask(*calls, ("range_of", 0), ("range_of", 1), ("range_of", 2))[4:], [[8, 8], [2, 2], [1, 1]])

    def test_none_fit(self):
        self.assertEqual(last(("begin", 2), NEVER, ("range_of", 1)), [-33])

    def test_things_that_are_not_there_are_refused_first(self):
        for n in (1, 2, 3, 4):
            for none_such in (n, n + 1, GREATEST):
                self.assertEqual(last(("begin", n), ("range_of", none_such)), [-2])
                self.assertEqual(last(("begin", n), ("tell", 0, [0] * n, [0] * n), ("range_of", none_such)), [-2])


class Sums(unittest.TestCase):
    def test_nothing_told(self):
        calls = [("begin", 2), ("sums", [1, 0]), ("sums", [1, 1]), ("sums", [2, 3]), ("sums", [0, 0])]
        self.assertEqual(ask(*calls)[1:], [[1, 8], [2, 16], [5, 40], [0, 0]])

    def test_the_greatest_there_is(self):
        self.assertEqual(last(("begin", 4), ("sums", [3, 3, 3, 3])), [12, 96])

    def test_by_what_is_told(self):
        calls = [("begin", 2), FIRST_MORE, ("sums", [1, 0]), ("sums", [0, 1]), ("sums", [1, 1]), ("sums", [1, 3]),
                 ("sums", [3, 1])]
        self.assertEqual(ask(*calls)[2:], [[2, 8], [1, 7], [3, 15], [5, 29], [7, 31]])

    def test_the_least_is_not_always_the_firsts(self):
        # As told of least: 1, 5, 4, 1 is first and comes to 11, but 2, 2, 4, 1 to 9.
        calls = [("begin", 4), ("tell", 0, [0, 0, 1, 0], [0, 0, 0, 3]), ("tell", 1, [3, 1, 0, 0], [0, 0, 2, 0]),
                 ("nth", 0), ("sums", [1, 1, 1, 1])]
        self.assertEqual(ask(*calls)[3:], [[4, 1, 5, 4, 1], [9, 26]])

    def test_the_greatest_is_not_always_the_lasts(self):
        # The last is 7, 1, 8, but by 1, 7, 8 the second thing thrice and the first once come to more.
        calls = [("begin", 3), ("tell", 1, [0, 0, 1], [1, 1, 0]), ("nth", 83), ("nth", 84), ("sums", [1, 3, 0])]
        self.assertEqual(ask(*calls)[2:], [[3, 7, 1, 8], [-33], [4, 22]])

    def test_none_fit(self):
        self.assertEqual(ask(("begin", 2), NEVER, ("sums", [1, 0]), ("sums", [0, 0]))[2:], [[-33], [-33]])

    def test_what_is_no_side_is_refused_first(self):
        for told in ([], [NEVER]):
            for side in NO_SIDES:
                self.assertEqual(last(("begin", 2), *told, ("sums", side)), [-22])


class Spare(unittest.TestCase):
    def test_nothing_told(self):
        self.assertEqual(last(("begin", 2), ("spare",)), [0])

    def test_one_that_is_needed_and_one_that_is_not(self):
        self.assertEqual(last(("begin", 2), FIRST_MORE, ("spare",)), [0])
        self.assertEqual(last(("begin", 2), ALWAYS, ("spare",)), [1, 0])
        self.assertEqual(last(("begin", 2), FIRST_MORE, FIRST_NO_LESS, ("spare",)), [1, 1])
        self.assertEqual(last(("begin", 2), FIRST_NO_LESS, FIRST_MORE, ("spare",)), [1, 0])

    def test_told_twice_each_alone_can_go(self):
        self.assertEqual(last(("begin", 2), FIRST_MORE, FIRST_MORE, ("spare",)), [2, 0, 1])
        self.assertEqual(ask(("begin", 2), FIRST_MORE, FIRST_MORE, ("untell", 0), ("spare",))[3:], [[1], [0]])

    def test_what_follows_from_two_others(self):
        calls = [("begin", 3), ("tell", 0, [1, 0, 0], [0, 1, 0]), ("tell", 0, [1, 0, 0], [0, 0, 1]),
                 ("tell", 0, [0, 1, 0], [0, 0, 1]), ("spare",), ("untell", 1), ("spare",)]
        self.assertEqual(ask(*calls)[4:], [[1, 1], [2], [0]])

    def test_two_no_less_are_one_as_much(self):
        calls = [("begin", 2), AS_MUCH, FIRST_NO_LESS, ("tell", 1, [0, 1], [1, 0])]
        self.assertEqual(last(*calls, ("spare",)), [3, 0, 1, 2])
        self.assertEqual(last(*calls, ("untell", 0), ("spare",)), [0])
        self.assertEqual(last(*calls, ("untell", 1), ("spare",)), [1, 1])

    def test_as_much_taken_backward(self):
        self.assertEqual(last(("begin", 2), AS_MUCH, ("tell", 2, [0, 1], [1, 0]), ("spare",)), [2, 0, 1])

    def test_what_only_numbers_up_to_eight_make_spare(self):
        # x1 is 2 at the most where x0 is 3 x1 or more, so that 3 x2 is more than x1 either way.
        calls = [("begin", 3), ("tell", 1, [1, 0, 0], [0, 3, 0]), ("tell", 0, [0, 0, 3], [0, 1, 0])]
        self.assertEqual(last(*calls, ("spare",)), [1, 1])

    def test_all_six(self):
        self.assertEqual(last(("begin", 1), *[("tell", 0, [1], [0])] * 6, ("spare",)), [6, 0, 1, 2, 3, 4, 5])
        self.assertEqual(last(("begin", 2), *[FIRST_NO_LESS] * 5, FIRST_MORE, ("spare",)), [5, 0, 1, 2, 3, 4])

    def test_it_leaves_all_as_it_was(self):
        calls = [("begin", 2), FIRST_MORE, FIRST_NO_LESS, ("spare",), ("spare",), ("state",), ("ways",)]
        self.assertEqual(ask(*calls)[3:], [[1, 1], [1, 1], [2, 2], [28]])

    def test_none_fit(self):
        self.assertEqual(last(("begin", 2), NEVER, ("spare",)), [-33])
        self.assertEqual(last(("begin", 2), FIRST_MORE, SECOND_MORE, ALWAYS, ("spare",)), [-33])


if __name__ == "__main__":
    unittest.main()
