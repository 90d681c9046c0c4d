"""The interface: how calls are handed in, how answers are given back, and that nothing is kept or changed."""

import contextlib
import inspect
import io
import unittest

from sumsweighed.comparing import answers
from tests.lines import ask, written

LINE = [
    ("ways",), ("begin", 3), ("tell", 0, [1, 0, 0], [0, 1, 0]), ("differ", 1, 0, 1, 1, 2), ("can",), ("ways",),
    ("least",), ("nth", 1), ("fits", [3, 2, 1]), ("wrong", [1, 2, 1]), ("follows", 1, [1, 0, 0], [0, 1, 0]),
    ("untell", 0), ("ways",), ("begin", 9), ("tell", 0, [], []), ("begin", 1), ("ways",),
]


def refuse(*given, **named):
    raise AssertionError("what is handed in is changed")


class Unchanging(list):
    append = extend = insert = pop = remove = clear = sort = reverse = refuse
    __setitem__ = __delitem__ = __iadd__ = __imul__ = refuse


class HowItIsWritten(unittest.TestCase):
    def test_one_argument_called_calls(self):
        self.assertEqual(list(inspect.signature(answers).parameters), ["calls"])
        self.assertEqual(answers(calls=[0, 1]), [1, 0])

    def test_an_empty_list(self):
        self.assertEqual(answers([]), [])

    def test_number_by_number(self):
        self.assertEqual(
            answers([
                4,
                0, 2,
                1, 0, 2, 1, 0, 2, 0, 1,
                2, 1, 0, 1, 1, 0,
                4,
                5,
                6,
                7, 1,
                8, 2, 2, 1,
                9, 2, 1, 2,
                10, 1, 2, 1, 0, 2, 0, 1,
                3, 0,
                7, 99,
            ]),
            [
                1, -11,
                1, 0,
                1, 0,
                1, 1,
                1, 1,
                1, 28,
                3, 3, 2, 1,
                3, 2, 3, 1,
                1, 1,
                3, 2, 0, 1,
                1, 1,
                1, 1,
                1, -33,
            ],
        )

    def test_rows_of_none_and_of_most_numbers(self):
        most = [4294967295] * 255
        for first, second in (([], []), (most, []), ([], most), (most, most)):
            self.assertEqual(
                ask(("begin", 1), ("tell", 0, first, second), ("follows", 0, first, second), ("fits", first),
                    ("wrong", second), ("ways",)),
                [[0], [-22], [-22], [-22], [-22], [8]],
            )

    def test_rows_are_read_before_a_begin_too(self):
        # What stands in a row must not be taken for a call.
        calls = [("tell", 0, [0, 1], [0, 1]), ("follows", 0, [0, 1], []), ("fits", [0, 1]), ("wrong", [0, 1]),
                 ("may", 0, [0, 1], [0, 1]), ("more", 0, 1), ("range_of", 0), ("sums", [0, 1]), ("cancels", [0, 1]),
                 ("balance", [0, 1]), ("look", 0), ("differ", 0, 1, 0, 1, 0), ("nth", 0), ("untell", 0), ("ways",)]
        self.assertEqual(ask(*calls), [[-11]] * 15)

    def test_as_many_calls_as_a_line_may_have(self):
        most = [3] + [4294967295] * 254
        calls = [("begin", 4)] + [("tell", 0, most, most)] * 24
        self.assertEqual(ask(*calls), [[0]] + [[-22]] * 24)


class WhatIsGivenBack(unittest.TestCase):
    def test_whole_numbers_in_a_list(self):
        answered = answers(written(LINE))
        self.assertIs(type(answered), list)
        self.assertEqual({type(number) for number in answered}, {int})

    def test_the_same_again(self):
        line = written(LINE)
        first = answers(line)
        self.assertEqual(answers(line), first)
        self.assertEqual(answers(written([("ways",)])), [1, -11])

    def test_it_may_be_changed_without_harm(self):
        line = written([("begin", 2), ("least",), ("nth", 0)])
        first = answers(line)
        kept = list(first)
        first.clear()
        self.assertEqual(answers(line), kept)


class WhatIsHandedIn(unittest.TestCase):
    def test_it_is_as_it_was(self):
        line = written(LINE)
        before = list(line)
        answers(line)
        self.assertEqual(line, before)

    def test_it_is_not_changed_for_a_while_either(self):
        line = written(LINE)
        self.assertEqual(answers(Unchanging(line)), answers(line))

    def test_nothing_is_printed(self):
        out = io.StringIO()
        with contextlib.redirect_stdout(out), contextlib.redirect_stderr(out):
            answers(written(LINE))
        self.assertEqual(out.getvalue(), "")


if __name__ == "__main__":
    unittest.main()
