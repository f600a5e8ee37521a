"""The one list handed in, and the one given back."""

import builtins
import contextlib
import io
import unittest
from unittest import mock

from evenblocksdesk.plans import answers

# points 4; blocks 1 2, 3 4, 1 3; every other call of the eight.
LINE = [0, 4, 1, 2, 1, 2, 1, 2, 3, 4, 1, 2, 1, 3, 3, 1, 1, 4, 1, 5, 6, 7, 2, 2, 5, 4, 2, 3, 0]
TOLD = [1, 0, 1, 0, 1, 1, 1, 2, 1, 2, 4, 0, 2, 1, 2, 2, 2, 0, 4, 2, 1, 2, 1, 3, 0, 1, 1, 1, 2, 2, 2, 1,
        5, 0, 1, 0, 1, 3, 1, 2]


class Interface(unittest.TestCase):
    def test_whole_list(self):
        self.assertEqual(answers(list(LINE)), TOLD)

    def test_each_call_alone(self):
        alone = [([0, 3], [1, 0]), ([1, 1, 1], [1, 0]), ([1, 0], [1, 0]), ([2, 0], [1, -2]), ([3, 0], [1, 0]),
                 ([4, 0], [2, 1, 0]), ([5], [1, -6]), ([6], [1, 0]), ([7], [0])]
        for line, told in alone:
            self.assertEqual(answers(line), told)

    def test_refusals_stand_alone(self):
        line = [0, 17, 1, 2, 2, 1, 2, 4294967295, 3, 1, 4294967295, 4, 5, 5, 6]
        self.assertEqual(answers(line), [1, -1, 1, -1, 1, -2, 1, -1, 1, -1, 1, -6, 1, 0])

    def test_rows_that_look_like_calls(self):
        line = [0, 8, 1, 4, 1, 2, 3, 4, 3, 3, 2, 3, 4, 1, 5, 0, 0, 0, 0, 0, 6]
        self.assertEqual(answers(line), [1, 0, 1, 0, 1, 1, 1, -1, 8, 1, 1, 1, 1, 0, 0, 0, 0])

    def test_forty_calls_with_the_longest_rows(self):
        line = [0, 16]
        for turn in range(39):
            line = line + [1 + 2 * (turn % 2), 30] + list(range(4294967266, 4294967296))
        self.assertEqual(answers(line), [1, 0] + [1, -1] * 39)

    def test_what_is_handed_in_stays(self):
        line = list(LINE)
        answers(line)
        self.assertEqual(line, LINE)

    def test_a_second_time(self):
        line = list(LINE)
        first = answers(line)
        first.append(99)
        self.assertEqual(answers(line), TOLD)
        self.assertEqual(answers([6]), [1, 0])
        self.assertEqual(answers([2, 0]), [1, -2])

    def test_a_list_of_whole_numbers(self):
        told = answers(list(LINE))
        self.assertIs(type(told), list)
        self.assertEqual({type(number) for number in told}, {int})

    def test_prints_reads_and_imports_nothing(self):
        refuse = mock.Mock(side_effect=RuntimeError("not asked for"))
        shown = io.StringIO()
        with contextlib.redirect_stdout(shown), contextlib.redirect_stderr(shown):
            with mock.patch.object(builtins, "open", refuse), mock.patch.object(builtins, "input", refuse):
                with mock.patch.object(builtins, "__import__", refuse):
                    told = answers(list(LINE))
        self.assertEqual(told, TOLD)
        self.assertEqual(shown.getvalue(), "")


if __name__ == "__main__":
    unittest.main()
