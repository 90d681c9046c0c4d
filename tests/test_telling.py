"""Promise 1: begin, tell, differ, untell; and what is so before a begin."""

import unittest

from tests.lines import NUMBERS, ask, last

GREATEST = 4294967295
ALIKE = ("tell", 1, [1, 1], [1, 1])
NEVER = ("tell", 0, [0, 0], [0, 0])
FIRST_MORE = ("tell", 0, [1, 0], [0, 1])
SECOND_MORE = ("tell", 0, [0, 1], [1, 0])

BEFORE_A_BEGIN = [
    ("tell", 0, [1], [0]), ("differ", 0, 0, 0, 0, 0), ("untell", 0), ("can",), ("ways",), ("least",),
    ("nth", 0), ("fits", [1]), ("wrong", [1]), ("follows", 0, [1], [0]), ("may", 0, [1], [0]),
    ("more", 0, 0), ("range_of", 0), ("sums", [1]), ("clashes",), ("spare",), ("cancels", []),
    ("cancel",), ("balance", []), ("look", 0), ("state",),
]


class BeforeABegin(unittest.TestCase):
    def test_every_other_call_is_named_here(self):
        self.assertEqual([NUMBERS[call[0]] for call in BEFORE_A_BEGIN], list(range(1, 22)))

    def test_every_other_call_answers_that_alone(self):
        for call in BEFORE_A_BEGIN:
            with self.subTest(call=call):
                self.assertEqual(ask(call), [[-11]])

    def test_a_refused_begin_is_none(self):
        for call in BEFORE_A_BEGIN:
            with self.subTest(call=call):
                self.assertEqual(ask(("begin", 0), call, ("begin", 5), call), [[-22], [-11], [-22], [-11]])

    def test_it_goes_ahead_of_all_other_refusals(self):
        calls = [
            ("tell", 3, [9], [7, 7]), ("differ", 3, 9, 9, 9, 9), ("untell", GREATEST), ("nth", GREATEST),
            ("fits", []), ("wrong", [0]), ("follows", 3, [], [4]), ("may", 3, [], [4]), ("more", GREATEST, 9),
            ("range_of", 9), ("sums", [4]), ("cancels", [4]), ("balance", [4]), ("look", GREATEST),
        ]
        self.assertEqual(ask(*calls), [[-11]] * len(calls))

    def test_a_begin_behind_them_begins(self):
        self.assertEqual(ask(("ways",), ("tell", 0, [1], [0]), ("begin", 1), ("ways",)), [[-11], [-11], [0], [8]])


class Begin(unittest.TestCase):
    def test_one_to_four_things(self):
        for n in (1, 2, 3, 4):
            self.assertEqual(ask(("begin", n), ("ways",)), [[0], [8 ** n]])

    def test_other_counts_are_refused(self):
        for n in (0, 5, 6, 255, GREATEST):
            self.assertEqual(ask(("begin", n)), [[-22]])

    def test_behind_a_begin_nothing_is_told(self):
        self.assertEqual(
            ask(("begin", 2), NEVER, ("can",), ("begin", 2), ("can",), ("ways",), ("untell", 0), FIRST_MORE),
            [[0], [0], [0], [0], [1], [64], [-2], [0]],
        )

    def test_behind_a_begin_there_are_other_things(self):
        self.assertEqual(
            ask(("begin", 2), FIRST_MORE, ("begin", 3), ("ways",), FIRST_MORE, ("differ", 0, 2, 0, 1, 1), ("begin", 1),
                ("nth", 7)),
            [[0], [0], [0], [512], [-22], [0], [0], [1, 8]],
        )

    def test_a_refused_one_changes_nothing(self):
        for n in (0, 5):
            self.assertEqual(
                ask(("begin", 2), FIRST_MORE, ("begin", n), ("ways",), ("nth", 0), ("wrong", [1, 1]), FIRST_MORE),
                [[0], [0], [-22], [28], [2, 2, 1], [1, 0], [1]],
            )


class Tell(unittest.TestCase):
    def test_each_kind(self):
        self.assertEqual(ask(("begin", 2), ("tell", 0, [1, 0], [0, 1]), ("ways",)), [[0], [0], [28]])
        self.assertEqual(ask(("begin", 2), ("tell", 1, [1, 0], [0, 1]), ("ways",)), [[0], [0], [36]])
        self.assertEqual(ask(("begin", 2), ("tell", 2, [1, 0], [0, 1]), ("ways",)), [[0], [0], [8]])

    def test_a_is_the_first_side(self):
        self.assertEqual(last(("begin", 2), FIRST_MORE, ("least",)), [3, 2, 1])
        self.assertEqual(last(("begin", 2), SECOND_MORE, ("least",)), [3, 1, 2])

    def test_things_are_taken_as_often_as_told(self):
        self.assertEqual(last(("begin", 2), ("tell", 2, [2, 0], [0, 3]), ("ways",)), [2])
        self.assertEqual(last(("begin", 2), ("tell", 2, [2, 0], [0, 3]), ("nth", 1)), [2, 6, 4])
        self.assertEqual(last(("begin", 1), ("tell", 0, [3], [2]), ("ways",)), [8])

    def test_a_kind_above_two_is_refused(self):
        for kind in (3, 4, GREATEST):
            self.assertEqual(last(("begin", 2), ("tell", kind, [1, 0], [0, 1])), [-22])

    def test_what_is_no_side_is_refused(self):
        for side in ([], [1], [1, 1, 1], [0] * 255, [4, 0], [0, 4], [GREATEST, 0]):
            with self.subTest(side=side):
                self.assertEqual(last(("begin", 2), ("tell", 0, side, [0, 1])), [-22])
                self.assertEqual(last(("begin", 2), ("tell", 0, [0, 1], side)), [-22])

    def test_sides_of_three_and_of_none_are_told(self):
        self.assertEqual(last(("begin", 2), ("tell", 0, [3, 3], [0, 0])), [0])
        self.assertEqual(last(("begin", 2), ("tell", 0, [0, 0], [3, 3])), [0])

    def test_what_is_refused_changes_nothing(self):
        for refused in (("tell", 3, [1, 0], [0, 1]), ("tell", 2, [1], [0, 1]), ("tell", 2, [1, 0], [0, 4])):
            self.assertEqual(ask(("begin", 2), refused, ("ways",), ALIKE), [[0], [-22], [64], [0]])

    def test_six_are_told_and_no_seventh(self):
        calls = [("begin", 2)] + [ALIKE] * 6 + [NEVER, ("can",), ("wrong", [1, 1]), ("untell", 5), FIRST_MORE]
        self.assertEqual(ask(*calls), [[0], [0], [1], [2], [3], [4], [5], [-28], [1], [0], [5], [5]])

    def test_not_right_is_answered_ahead_of_too_many(self):
        full = [("begin", 2)] + [ALIKE] * 6
        for call in (("tell", 3, [1, 0], [0, 1]), ("tell", 0, [1], [0, 1]), ("tell", 0, [0, 1], [4, 0])):
            self.assertEqual(last(*full, call), [-22])


class Differ(unittest.TestCase):
    def test_it_is_told_of_the_differences(self):
        for kind in (0, 1, 2):
            for numbers in ([5, 2, 3, 1], [5, 2, 4, 1], [5, 2, 5, 1], [1, 8, 8, 1], [8, 1, 1, 8]):
                i, j, u, v = numbers
                so = [i - j > u - v, i - j >= u - v, i - j == u - v][kind]
                self.assertEqual(
                    ask(("begin", 4), ("differ", kind, 0, 1, 2, 3), ("fits", numbers)), [[0], [0], [int(so)]]
                )

    def test_it_is_as_i_and_v_against_j_and_u(self):
        same = ("tell", 0, [1, 0, 1, 0], [0, 1, 0, 1])
        told = [("begin", 4), ("differ", 0, 0, 1, 3, 2)]
        self.assertEqual(last(*told, ("ways",)), last(("begin", 4), same, ("ways",)))
        self.assertEqual(last(*told, ("follows", *same[1:])), [1])

    def test_a_thing_that_is_there_twice_is_taken_twice(self):
        first_twice = [("begin", 3), ("differ", 2, 0, 1, 2, 0)]
        self.assertEqual(last(*first_twice, ("fits", [3, 1, 5])), [1])
        self.assertEqual(last(*first_twice, ("fits", [3, 1, 2])), [0])
        self.assertEqual(last(*first_twice, ("follows", 2, [2, 0, 0], [0, 1, 1])), [1])
        second_twice = [("begin", 3), ("differ", 2, 0, 1, 1, 2)]
        self.assertEqual(last(*second_twice, ("fits", [5, 3, 1])), [1])
        self.assertEqual(last(*second_twice, ("follows", 2, [1, 0, 1], [0, 2, 0])), [1])
        both_twice = [("begin", 2), ("differ", 0, 0, 1, 1, 0)]
        self.assertEqual(last(*both_twice, ("ways",)), [28])

    def test_a_difference_with_itself(self):
        for kind, count in ((0, 0), (1, 64), (2, 64)):
            self.assertEqual(last(("begin", 2), ("differ", kind, 0, 1, 0, 1), ("ways",)), [count])
            self.assertEqual(last(("begin", 2), ("differ", kind, 1, 1, 1, 1), ("ways",)), [count])
            self.assertEqual(last(("begin", 1), ("differ", kind, 0, 0, 0, 0), ("ways",)), [count // 8])

    def test_things_that_are_not_there(self):
        for n in (1, 2, 3, 4):
            for none_such in (n, n + 1, GREATEST):
                for place in range(4):
                    things = [0, 0, 0, 0]
                    things[place] = none_such
                    self.assertEqual(ask(("begin", n), ("differ", 1, *things), ("ways",)), [[0], [-2], [8 ** n]])
            self.assertEqual(last(("begin", n), ("differ", 1, n - 1, n - 1, n - 1, n - 1)), [0])

    def test_a_kind_above_two_is_refused(self):
        for kind in (3, GREATEST):
            self.assertEqual(ask(("begin", 2), ("differ", kind, 0, 1, 1, 0), ("ways",)), [[0], [-22], [64]])

    def test_a_seventh_is_refused(self):
        calls = [("begin", 2)] + [("differ", 1, 0, 0, 0, 0)] * 6 + [("differ", 0, 0, 0, 0, 0), ("ways",)]
        self.assertEqual(ask(*calls), [[0], [0], [1], [2], [3], [4], [5], [-28], [64]])

    def test_which_refusal_is_answered(self):
        full = [("begin", 2)] + [ALIKE] * 6
        self.assertEqual(last(*full, ("differ", 3, 0, 0, 0, 2)), [-2])
        self.assertEqual(last(*full, ("differ", 0, 2, 0, 0, 0)), [-2])
        self.assertEqual(last(*full, ("differ", 3, 0, 0, 0, 0)), [-22])
        self.assertEqual(last(("begin", 2), ("differ", 3, 0, 0, 2, 0)), [-2])

    def test_it_is_numbered_along_with_tell(self):
        calls = [("begin", 2), FIRST_MORE, ("differ", 1, 0, 1, 1, 0), FIRST_MORE, ("wrong", [1, 2])]
        self.assertEqual(ask(*calls), [[0], [0], [1], [2], [3, 0, 1, 2]])


class Untell(unittest.TestCase):
    TOLD = [
        ("begin", 3),
        ("tell", 0, [1, 0, 0], [0, 1, 0]),
        ("tell", 0, [0, 1, 0], [0, 0, 1]),
        ("tell", 2, [1, 0, 0], [0, 0, 1]),
    ]

    def test_the_first_a_middle_and_the_last_one(self):
        # By 1, 1, 2 the first two are not so, nor is the last; by 2, 1, 2 the middle one alone is not.
        for gone, by_first, by_middle, count in (
            (0, [2, 0, 1], [1, 0], 28), (1, [2, 0, 1], [0], 28), (2, [2, 0, 1], [1, 1], 56),
        ):
            with self.subTest(gone=gone):
                self.assertEqual(
                    ask(*self.TOLD, ("untell", gone), ("wrong", [1, 1, 2]), ("wrong", [2, 1, 2]), ("ways",))[4:],
                    [[2], by_first, by_middle, [count]],
                )

    def test_what_comes_then_has_the_next_number(self):
        self.assertEqual(
            ask(*self.TOLD, ("untell", 0), ("tell", 0, [0, 0, 0], [0, 0, 0]), ("wrong", [2, 1, 2]))[4:],
            [[2], [2], [2, 0, 2]],
        )

    def test_down_to_none(self):
        self.assertEqual(
            ask(*self.TOLD, ("untell", 0), ("untell", 0), ("untell", 0), ("untell", 0), ("ways",))[4:],
            [[2], [1], [0], [-2], [512]],
        )

    def test_one_that_is_not_told_is_refused(self):
        for t in (3, 4, GREATEST):
            self.assertEqual(
                ask(*self.TOLD, ("untell", t), ("ways",), ("wrong", [1, 1, 2]))[4:], [[-2], [0], [3, 0, 1, 2]]
            )
        self.assertEqual(ask(("begin", 1), ("untell", 0)), [[0], [-2]])

    def test_one_of_two_alike(self):
        self.assertEqual(
            ask(("begin", 2), FIRST_MORE, FIRST_MORE, ("untell", 0), ("ways",), ("untell", 0), ("ways",)),
            [[0], [0], [1], [1], [28], [0], [64]],
        )


if __name__ == "__main__":
    unittest.main()
