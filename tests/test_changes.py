"""The calls points, block and gone."""

import unittest

from lines import (DEGREES, FANO, HIGHEST, MEETS, STRENGTH, ask, ask_last, block, even, gone, look, plan, points,
                   together)


class Beginning(unittest.TestCase):
    def test_one_point_and_no_blocks(self):
        self.assertEqual(ask([DEGREES]), [[0]])
        self.assertEqual(ask([MEETS]), [[]])
        self.assertEqual(ask([together()]), [[0]])
        self.assertEqual(ask([together(1)]), [[0]])
        self.assertEqual(ask([together(2)]), [[-1]])
        self.assertEqual(ask([gone(0)]), [[-2]])
        self.assertEqual(ask([STRENGTH]), [[-6]])
        self.assertEqual(ask([even(0), even(1), even(2)]), [[1, 0], [1, 0], [-1]])

    def test_blocks_without_telling_points(self):
        self.assertEqual(ask([block(1), block(), block(2), DEGREES]), [[0], [1], [-1], [1]])


class Points(unittest.TestCase):
    def test_every_number_of_points(self):
        for v in range(1, 17):
            self.assertEqual(ask([points(v), DEGREES]), [[0], [0] * v])

    def test_highest_point_and_the_one_above(self):
        for v in range(1, 17):
            calls = [points(v), block(v), block(v + 1), together(v), together(v + 1)]
            self.assertEqual(ask(calls), [[0], [0], [-1], [1], [-1]])

    def test_once_more_behind_blocks(self):
        calls = plan(4, [[1, 2], [3, 4]]) + [points(3), together(), DEGREES, MEETS, block(1), DEGREES]
        self.assertEqual(ask_last(calls, 6), [[0], [0], [0, 0, 0], [], [0], [1, 0, 0]])

    def test_once_more_with_as_many(self):
        self.assertEqual(ask_last(plan(2, [[1]]) + [points(2), DEGREES, gone(0)], 3), [[0], [0, 0], [-2]])

    def test_refused(self):
        for v in (0, 17, 18, 20, 1000, HIGHEST):
            before = plan(4, [[1, 2], [2, 3, 4]])
            calls = before + look(4) + [points(v)] + look(4)
            told = ask(calls)[len(before):]
            seen = len(look(4))
            self.assertEqual(told[seen], [-1])
            self.assertEqual(told[:seen], told[seen + 1:])
            self.assertEqual(told[:3], [[2], [1, 2, 1, 1], [1]])

    def test_refused_at_the_beginning(self):
        self.assertEqual(ask([points(0), points(17), DEGREES]), [[-1], [-1], [0]])


class Block(unittest.TestCase):
    def test_numbers_rise_from_0(self):
        self.assertEqual(ask(plan(7, FANO)), [[0]] + [[n] for n in range(7)])

    def test_no_points_and_the_same_set(self):
        rows = [[], [1, 3], [1, 3], [], [1, 3]]
        calls = plan(3, rows) + [together(), together(1, 3), DEGREES, MEETS]
        self.assertEqual(ask_last(calls, 4), [[5], [3], [3, 0, 3], [0, 0, 0, 0, 2, 0, 2, 0, 2, 0]])

    def test_all_points(self):
        self.assertEqual(ask_last(plan(16, [list(range(1, 17))]) + [DEGREES]), [[1] * 16])

    def test_twenty_and_one_more(self):
        calls = plan(2, [[1]] * 20) + [block(2), DEGREES, together()]
        self.assertEqual(ask(calls)[1:], [[n] for n in range(20)] + [[-5], [20, 0], [20]])

    def test_one_gone_leaves_room(self):
        calls = plan(2, [[1]] * 20) + [gone(3), block(2), block(2), DEGREES]
        self.assertEqual(ask_last(calls, 4), [[19], [19], [-5], [19, 1]])

    def test_points_told_before_twenty(self):
        wrong = [block(2, 1), block(1, 1), block(0), block(3), block(HIGHEST)]
        calls = plan(2, [[1]] * 20) + wrong + [block(), block(1, 2), together()]
        self.assertEqual(ask_last(calls, 8), [[-1]] * 5 + [[-5], [-5], [20]])

    def test_refused(self):
        long = list(range(1, 31))
        wrong = [[0], [0, 1], [6], [5, 6], [2, 1], [1, 3, 2], [1, 1], [1, 2, 2], [HIGHEST], [1, HIGHEST],
                 [HIGHEST, 1], long, long[::-1], [1] * 30, [0] * 30, [HIGHEST] * 30, [1, 2, 3, 4, 5, 5]]
        before = plan(5, [[1, 2], [2, 3, 4]])
        seen = look(5)
        for row in wrong:
            told = ask(before + seen + [block(*row)] + seen)[len(before):]
            self.assertEqual(told[len(seen)], [-1], row)
            self.assertEqual(told[:len(seen)], told[len(seen) + 1:], row)
            self.assertEqual(ask_last(before + [block(*row), block(5)]), [[2]], row)


class Gone(unittest.TestCase):
    rows = [[1], [1, 2], [1, 2, 3], [4]]

    def rest(self, n):
        left = self.rows[:n] + self.rows[n + 1:]
        told = ask_last(plan(4, self.rows) + [gone(n)] + look(4), 1 + len(look(4)))
        self.assertEqual(told[0], [3])
        self.assertEqual(told[1:], ask_last(plan(4, left) + look(4), len(look(4))))

    def test_first(self):
        self.rest(0)

    def test_middle(self):
        self.rest(1)
        self.rest(2)

    def test_last(self):
        self.rest(3)

    def test_those_behind_come_forward(self):
        calls = plan(4, self.rows) + [gone(1), gone(1), DEGREES, gone(1), DEGREES, gone(1), gone(0), gone(0)]
        self.assertEqual(ask_last(calls, 8), [[3], [2], [1, 0, 0, 1], [1], [1, 0, 0, 0], [-2], [0], [-2]])

    def test_a_new_block_takes_the_number_behind(self):
        self.assertEqual(ask_last(plan(4, self.rows) + [gone(0), block(2), MEETS], 3), [[3], [3], [2, 0, 1, 0, 1, 0]])

    def test_points_stay(self):
        self.assertEqual(ask_last(plan(3, [[1, 3]]) + [gone(0), DEGREES, block(3), MEETS], 4), [[0], [0, 0, 0], [0], []])

    def test_refused(self):
        before = plan(4, self.rows)
        for n in (4, 5, 20, 1000, HIGHEST):
            told = ask_last(before + [gone(n)] + look(4), 1 + len(look(4)))
            self.assertEqual(told[0], [-2])
            self.assertEqual(told[1:], ask_last(before + look(4), len(look(4))))


if __name__ == "__main__":
    unittest.main()
