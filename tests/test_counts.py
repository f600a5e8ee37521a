"""The calls together, degrees and meets."""

import unittest

from lines import DEGREES, FANO, HIGHEST, MEETS, NINE, ask, ask_last, block, gone, look, plan, points, together


class Together(unittest.TestCase):
    def test_ordinary(self):
        rows = [[1, 2, 3], [2, 3], [1, 3, 4], [2, 3, 4]]
        calls = [together(1), together(2, 3), together(1, 3), together(1, 2), together(1, 2, 4), together(2, 3, 4)]
        self.assertEqual(ask_last(plan(5, rows) + calls, 6), [[2], [3], [2], [1], [0], [1]])

    def test_no_points(self):
        self.assertEqual(ask([together(), points(3), together()]), [[0], [0], [0]])
        self.assertEqual(ask_last(plan(3, [[1], [], [2, 3]]) + [together()]), [[3]])
        self.assertEqual(ask_last(plan(3, [[]] * 20) + [together()]), [[20]])

    def test_all_points(self):
        every = list(range(1, 17))
        calls = plan(16, [every, every[:-1], every]) + [together(*every), together(16), together(*every[:-1])]
        self.assertEqual(ask_last(calls, 3), [[2], [2], [3]])

    def test_refused(self):
        before = plan(4, [[1, 2], [2, 3, 4]])
        long = list(range(1, 31))
        wrong = [[0], [0, 1], [5], [4, 5], [2, 1], [1, 1], [1, 3, 2], [2, 3, 3], [HIGHEST], [1, HIGHEST],
                 long, long[::-1], [2] * 30, [HIGHEST] * 30]
        for row in wrong:
            told = ask_last(before + [together(*row)] + look(4), 1 + len(look(4)))
            self.assertEqual(told[0], [-1], row)
            self.assertEqual(told[1:], ask_last(before + look(4), len(look(4))), row)


class Degrees(unittest.TestCase):
    def test_ordinary(self):
        self.assertEqual(ask_last(plan(5, [[1, 2], [2, 3, 4], [2], []]) + [DEGREES]), [[1, 3, 1, 1, 0]])
        self.assertEqual(ask_last(plan(7, FANO) + [DEGREES]), [[3] * 7])
        self.assertEqual(ask_last(plan(9, NINE) + [DEGREES]), [[4] * 9])

    def test_one_and_sixteen_points(self):
        self.assertEqual(ask_last(plan(1, [[1], [], [1]]) + [DEGREES]), [[2]])
        rows = [list(range(1, n + 1)) for n in range(1, 17)]
        self.assertEqual(ask_last(plan(16, rows) + [DEGREES]), [list(range(16, 0, -1))])

    def test_twenty_blocks(self):
        self.assertEqual(ask_last(plan(3, [[1, 2]] * 19 + [[3]]) + [DEGREES]), [[19, 19, 1]])


class Meets(unittest.TestCase):
    def test_no_block_and_one(self):
        self.assertEqual(ask([points(4), MEETS, block(1, 2), MEETS]), [[0], [], [0], []])

    def test_two(self):
        self.assertEqual(ask_last(plan(4, [[1, 2, 4], [2, 3, 4]]) + [MEETS]), [[2]])

    def test_several_in_order(self):
        rows = [[1, 2, 3, 4], [1], [1, 2, 5], [3, 4, 5, 6]]
        # 0 and 1, 0 and 2, 0 and 3, 1 and 2, 1 and 3, 2 and 3
        self.assertEqual(ask_last(plan(6, rows) + [MEETS]), [[1, 2, 2, 1, 0, 1]])

    def test_each_two_of_as_many_as_points(self):
        self.assertEqual(ask_last(plan(7, FANO) + [MEETS]), [[1] * 21])

    def test_twenty_blocks(self):
        rows = [list(range(1, n % 17 + 1)) for n in range(20)]
        told = [min(n % 17, m % 17) for n in range(20) for m in range(n + 1, 20)]
        self.assertEqual(ask_last(plan(16, rows) + [MEETS]), [told])

    def test_behind_gone(self):
        self.assertEqual(ask_last(plan(3, [[1, 2], [3], [1, 2]]) + [gone(1), MEETS]), [[2]])


if __name__ == "__main__":
    unittest.main()
