"""The one list handed in, and the one given back."""

import builtins
import contextlib
import io
import unittest
from unittest import mock

from evenblocksdesk.plans import answers

# points 4; blocks 1 2, 3 4, 1 3; every other call of the first eight.
LINE = [0, 4, 1, 2, 1, 2, 1, 2, 3, 4, 1, 2, 1, 3, 3, 1, 1, 4, 1, 5, 6, 7, 2, 2, 5, 4, 2, 3, 0]
TOLD = [1, 0, 1, 0, 1, 1, 1, 2, 1, 2, 4, 0, 2, 1, 2, 2, 2, 0, 4, 2, 1, 2, 1, 3, 0, 1, 1, 1, 2, 2, 2, 1,
        5, 0, 1, 0, 1, 3, 1, 2]

# points 4; blocks 1 2, 3 4; classes, blocks; block 2 3 4; turn, degrees, fill, classes; gone 1; block 2 3; classes;
# away 1; blocks 2, 1; outside 2; strength; points 3; blocks 1 3, 2 3, 3; around 3; block 1 2; inside 3; blocks;
# classes; around 9.
LATER = [0, 4, 1, 2, 1, 2, 1, 2, 3, 4, 14, 15, 1, 3, 2, 3, 4, 8, 6, 9, 14, 2, 1, 1, 2, 2, 3, 14,
         11, 1, 1, 1, 2, 1, 1, 1, 13, 2, 5, 0, 3, 1, 2, 1, 3, 1, 2, 2, 3, 1, 1, 3, 10, 3, 1, 2, 1, 2, 12, 3, 15,
         14, 10, 9]
TOLD_LATER = [1, 0, 1, 0, 1, 1, 4, 1, 2, 0, 1, 8, 4, 2, 2, 1, 2, 2, 3, 4, 1, 2,
              13, 3, 4, 1, 1, 2, 1, 3, 2, 2, 3, 2, 2, 3, 3, 2, 2, 3, 11, 3, 4, 2, 2, 3, 1, 2, 1, 1, 1, 1,
              1, -3, 1, 3, 1, 3, 7, 2, 2, 1, 0, 2, 2, 3, 8, 2, 2, 2, 1, 2, 2, 1, 2, 1, 2, 1, 3,
              8, 1, 3, 1, 1, 1, 1, 1, 1, 2, 1, 1, 1, 0, 1, 0, 1, 1, 1, 2, 7, 2, 3, 1, 1, 1, 2, 0, 1, 3,
              7, 2, 3, 1, 1, 1, 2, 0, 7, 2, 3, 1, 1, 1, 2, 0, 1, -6, 1, -1]

LINES = [(LINE, TOLD), (LATER, TOLD_LATER)]


class Interface(unittest.TestCase):
    def test_whole_list(self):
        for line, told in LINES:
            self.assertEqual(answers(list(line)), told)

    def test_each_call_alone(self):
        alone = [([0, 3], [1, 0]), ([1, 1, 1], [1, 0]), ([1, 0], [1, 0]), ([2, 0], [1, -2]), ([3, 0], [1, 0]),
                 ([4, 0], [2, 1, 0]), ([5], [1, -6]), ([6], [1, 0]), ([7], [0]),
                 ([8], [1, -5]), ([9], [2, 1, 0]), ([10, 1], [1, -5]), ([11, 1], [1, -5]), ([12, 0], [1, -2]),
                 ([13, 0], [1, -2]), ([14], [1, 0]), ([15], [2, 1, 0])]
        for line, told in alone:
            self.assertEqual(answers(line), told)

    def test_refusals_stand_alone(self):
        line = [0, 17, 1, 2, 2, 1, 2, 4294967295, 3, 1, 4294967295, 4, 5, 5, 6]
        self.assertEqual(answers(line), [1, -1, 1, -1, 1, -2, 1, -1, 1, -1, 1, -6, 1, 0])
        line = [8, 10, 4294967295, 11, 4294967295, 12, 4294967295, 13, 4294967295, 10, 0, 11, 0, 1, 0, 14, 12, 0,
                1, 1, 1, 13, 1, 2, 0, 0, 2, 1, 1, 1, 14, 15]
        self.assertEqual(answers(line), [1, -5, 1, -1, 1, -1, 1, -2, 1, -2, 1, -1, 1, -1, 1, 0, 1, -6, 1, -5,
                                         1, 1, 1, -5, 1, 1, 1, 0, 1, 0, 1, -3, 4, 2, 1, 1, 1])

    def test_rows_that_look_like_calls(self):
        line = [0, 8, 1, 4, 1, 2, 3, 4, 3, 3, 2, 3, 4, 1, 5, 0, 0, 0, 0, 0, 6]
        self.assertEqual(answers(line), [1, 0, 1, 0, 1, 1, 1, -1, 8, 1, 1, 1, 1, 0, 0, 0, 0])

    def test_forty_calls_with_the_longest_rows(self):
        line = [0, 16]
        for turn in range(39):
            line = line + [1 + 2 * (turn % 2), 30] + list(range(4294967266, 4294967296))
        self.assertEqual(answers(line), [1, 0] + [1, -1] * 39)

    def test_forty_of_the_longest_answers(self):
        line = [0, 16] + [1, 16] + list(range(1, 17)) + [8] + [1, 1, 1] * 4 + [8] + ([1, 20] + list(range(1, 21))) * 19
        line = line + [9, 9, 8, 8, 15, 7, 14] + [10, 20, 11, 1, 13, 0, 12, 0, 4, 4, 5]
        given = answers(line)
        places = [0]
        while places[-1] < len(given):
            places.append(places[-1] + 1 + given[places[-1]])
        self.assertEqual([given[place] for place in places[-14:-1]],
                         [22, 422, 422, 422, 422, 190, 41, 402, 2, 1, 1, 2, 1])

    def test_what_is_handed_in_stays(self):
        for line, told in LINES:
            handed = list(line)
            answers(handed)
            self.assertEqual(handed, line)

    def test_a_second_time(self):
        for line, told in LINES:
            first = answers(list(line))
            first.append(99)
            self.assertEqual(answers(list(line)), told)
            self.assertEqual(answers([6]), [1, 0])
            self.assertEqual(answers([2, 0]), [1, -2])
            self.assertEqual(answers([15]), [2, 1, 0])

    def test_a_list_of_whole_numbers(self):
        for line, told in LINES:
            given = answers(list(line))
            self.assertIs(type(given), list)
            self.assertEqual({type(number) for number in given}, {int})

    def test_prints_reads_and_imports_nothing(self):
        refuse = mock.Mock(side_effect=RuntimeError("not asked for"))
        shown = io.StringIO()
        with contextlib.redirect_stdout(shown), contextlib.redirect_stderr(shown):
            with mock.patch.object(builtins, "open", refuse), mock.patch.object(builtins, "input", refuse):
                with mock.patch.object(builtins, "__import__", refuse):
                    given = [answers(list(line)) for line, told in LINES]
        self.assertEqual(given, [TOLD, TOLD_LATER])
        self.assertEqual(shown.getvalue(), "")


if __name__ == "__main__":
    unittest.main()
