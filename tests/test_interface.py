"""The interface: how calls are handed in, how answers are given back, and that nothing is kept or changed."""

import contextlib
import inspect
import io
import unittest

from sumsweighed.comparing import answers
from tests.lines import ask, written

LINE = [
    ("ways",), ("begin", 3), ("tell", 0, [1, 0, 0], [0, 1, 0]), ("differ", 1, 0, 1, 1, 2), ("can",), ("ways",),
    ("least",), ("nth", 1), ("fits", [3, 2, 1]), ("wrong", [1, 2, 1]), ("follows", 1, [1, 0, 0], [0, 1, 0]),
    ("untell", 0), ("ways",), ("begin", 9), ("tell", 0, [], []), ("begin", 1), ("ways",),
]
SECOND_LINE = [
    ("state",), ("begin", 3), ("tell", 0, [1, 0, 0], [0, 1, 0]), ("differ", 1, 0, 1, 1, 2),
    ("may", 1, [0, 1, 0], [1, 0, 0]), ("more", 0, 1), ("range_of", 2), ("sums", [3, 0, 1]), ("spare",), ("clashes",),
    ("cancel",), ("tell", 0, [0, 1, 0], [1, 0, 0]), ("clashes",), ("spare",), ("cancels", [1, 0, 1]), ("cancel",),
    ("balance", [3, 2, 1]), ("look", 1), ("state",), ("more", 3, 0), ("look", 3), ("balance", [1]), ("untell", 2),
    ("look", 1), ("state",),
]


def refuse(*given, **named):
    raise AssertionError("what is handed in is changed")


class Unchanging(list):
    append = extend = insert = pop = remove = clear = sort = reverse = refuse
    __setitem__ = __delitem__ = __iadd__ = __imul__ = refuse


class HowItIsWritten(unittest.TestCase):
    def test_one_argument_called_calls(self):
        self.assertEqual(list(inspect.signature(answers).parameters), ["calls"])
        self.assertEqual(answers(calls=[0, 1]), [1, 0])

    def test_an_empty_list(self):
        self.assertEqual(answers([]), [])

    def test_number_by_number(self):
        self.assertEqual(
            answers([
                4,
                0, 2,
                1, 0, 2, 1, 0, 2, 0, 1,
                2, 1, 0, 1, 1, 0,
                4,
                5,
                6,
                7, 1,
                8, 2, 2, 1,
                9, 2, 1, 2,
                10, 1, 2, 1, 0, 2, 0, 1,
                3, 0,
                7, 99,
            ]),
            [
                1, -11,
                1, 0,
                1, 0,
                1, 1,
                1, 1,
                1, 28,
                3, 3, 2, 1,
                3, 2, 3, 1,
                1, 1,
                3, 2, 0, 1,
                1, 1,
                1, 1,
                1, -33,
            ],
        )

    def test_number_by_number_of_the_later_calls(self):
        self.assertEqual(
            answers([
                21,
                0, 2,
                1, 0, 2, 1, 0, 2, 0, 1,
                11, 2, 2, 1, 0, 2, 0, 2,
                12, 0, 1,
                13, 1,
                14, 2, 1, 1,
                15,
                16,
                2, 0, 1, 0, 0, 1,
                15,
                16,
                17, 2, 2, 1,
                18,
                19, 2, 1, 0,
                20, 1,
                20, 2,
                21,
                11, 0, 0, 0,
                19, 0,
            ]),
            [
                1, -11,
                1, 0,
                1, 0,
                1, 1,
                1, 2,
                2, 1, 7,
                2, 3, 15,
                1, -33,
                1, 0,
                1, 1,
                2, 1, 3,
                1, -33,
                1, 1,
                3, 3, 2, 1,
                3, 2, 1, -1,
                5, 0, 0, 2, 2, 0,
                1, -2,
                2, 2, 2,
                1, -22,
                1, -22,
            ],
        )

    def test_rows_of_none_and_of_most_numbers(self):
        most = [4294967295] * 255
        for first, second in (([], []), (most, []), ([], most), (most, most)):
            self.assertEqual(
                ask(("begin", 1), ("tell", 0, first, second), ("follows", 0, first, second), ("fits", first),
                    ("wrong", second), ("may", 0, first, second), ("sums", first), ("ways",)),
                [[0], [-22], [-22], [-22], [-22], [-22], [-22], [8]],
            )
        for row, cancels, balance in (([], [0], [1, 0]), (most, [-22], [-22])):
            self.assertEqual(ask(("begin", 1), ("cancels", row), ("balance", row)), [[0], cancels, balance])

    def test_rows_are_read_before_a_begin_too(self):
        # What stands in a row must not be taken for a call.
        calls = [("tell", 0, [0, 1], [0, 1]), ("follows", 0, [0, 1], []), ("fits", [0, 1]), ("wrong", [0, 1]),
                 ("may", 0, [0, 1], [0, 1]), ("more", 0, 1), ("range_of", 0), ("sums", [0, 1]), ("cancels", [0, 1]),
                 ("balance", [0, 1]), ("look", 0), ("differ", 0, 1, 0, 1, 0), ("nth", 0), ("untell", 0), ("ways",)]
        self.assertEqual(ask(*calls), [[-11]] * 15)

    def test_as_many_calls_as_a_line_may_have(self):
        most = [3] + [4294967295] * 254
        calls = [("begin", 4)] + [("tell", 0, most, most)] * 24
        self.assertEqual(ask(*calls), [[0]] + [[-22]] * 24)


class WhatIsGivenBack(unittest.TestCase):
    def test_whole_numbers_in_a_list(self):
        for calls in (LINE, SECOND_LINE):
            answered = answers(written(calls))
            self.assertIs(type(answered), list)
            self.assertEqual({type(number) for number in answered}, {int})

    def test_the_same_again(self):
        lines = [written(LINE), written(SECOND_LINE)]
        first = [answers(line) for line in lines]
        self.assertEqual([answers(line) for line in lines], first)
        self.assertEqual(answers(written([("ways",), ("state",)])), [1, -11, 1, -11])

    def test_it_may_be_changed_without_harm(self):
        for calls in ([("begin", 2), ("least",), ("nth", 0)], SECOND_LINE):
            line = written(calls)
            first = answers(line)
            kept = list(first)
            first.clear()
            self.assertEqual(answers(line), kept)


class WhatIsHandedIn(unittest.TestCase):
    def test_it_is_as_it_was(self):
        for calls in (LINE, SECOND_LINE):
            line = written(calls)
            before = list(line)
            answers(line)
            self.assertEqual(line, before)

    def test_it_is_not_changed_for_a_while_either(self):
        for calls in (LINE, SECOND_LINE):
            line = written(calls)
            self.assertEqual(answers(Unchanging(line)), answers(line))

    def test_nothing_is_printed(self):
        out = io.StringIO()
        with contextlib.redirect_stdout(out), contextlib.redirect_stderr(out):
            answers(written(LINE))
            answers(written(SECOND_LINE))
        self.assertEqual(out.getvalue(), "")


if __name__ == "__main__":
    unittest.main()
