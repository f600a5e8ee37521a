"""Plans that are turned to twenty points: each call on them."""

import unittest

from lines import (BLOCKS, CLASSES, DEGREES, FILL, HIGHEST, MEETS, STRENGTH, TURN, around, ask_last, away, block, even,
                   gone, inside, outside, points, together, told, wide_plan)


class TwentyPoints(unittest.TestCase):
    # Of the twenty points, blocks 1 to 10, 11 to 20, the odd ones, the even ones.
    rows = [list(range(1, 11)), list(range(11, 21)), list(range(1, 20, 2)), list(range(2, 21, 2))]
    before = [points(4)] + [block(1 if p <= 10 else 2, 3 if p % 2 else 4) for p in range(1, 21)] + [TURN]

    def then(self, *calls):
        return ask_last(self.before + list(calls), len(calls))

    def test_turned(self):
        self.assertEqual(self.then(BLOCKS), [told(20, self.rows)])
        self.assertEqual(ask_last(self.before), [told(20, self.rows)])

    def test_points(self):
        self.assertEqual(self.then(points(17), points(20), BLOCKS, points(16), BLOCKS),
                         [[-1], [-1], told(20, self.rows), [0], [16, 0]])

    def test_block(self):
        self.assertEqual(self.then(block(17, 20), block(20), block(21), block(0), block(*range(1, 21)), BLOCKS),
                         [[4], [5], [-1], [-1], [6], told(20, self.rows + [[17, 20], [20], list(range(1, 21))])])

    def test_gone(self):
        self.assertEqual(self.then(gone(4), gone(0), BLOCKS), [[-2], [3], told(20, self.rows[1:])])

    def test_together(self):
        self.assertEqual(self.then(together(), together(20), together(11, 19), together(21), together(HIGHEST)),
                         [[4], [2], [2], [-1], [-1]])

    def test_even(self):
        self.assertEqual(self.then(even(0), even(1), even(2), even(3), even(4), even(5)),
                         [[1, 4], [1, 2], [0, 1, 2, 1, 3], [0, 1, 0, 1, 2, 11], [0, 1, 0, 1, 2, 3, 11], [-1]])
        self.assertEqual(self.then(gone(3), gone(2), even(4), even(1))[2:], [[0, 1, 0, 1, 2, 3, 11], [1, 1]])
        calls = [block()] * 20 + [TURN, block(17, 18, 19, 20), even(4), even(2), block(20), even(1)]
        self.assertEqual(ask_last(calls, 4), [[0, 0, 1, 17, 18, 19, 20], [0, 0, 1, 17, 18], [2], [0, 0, 1, 17]])

    def test_strength(self):
        self.assertEqual(self.then(STRENGTH, gone(0), STRENGTH), [[10, 1], [3], [10, 0]])
        self.assertEqual(ask_last([block(1)] * 20 + [TURN, STRENGTH]), [[20, 20]])
        rows = [[p for p in range(1, 21) if p != left] for left in range(1, 21)]
        self.assertEqual(ask_last(wide_plan(rows) + [STRENGTH, FILL, STRENGTH], 3),
                         [[19, 19], told(20, [[p] for p in range(1, 21)]), [1, 1]])

    def test_degrees_and_meets(self):
        self.assertEqual(self.then(DEGREES, MEETS), [[2] * 20, [0, 5, 5, 5, 5, 0]])

    def test_turn(self):
        self.assertEqual(self.then(TURN, TURN, gone(0), TURN),
                         [told(4, [row[2:] for row in self.before[1:-1]]), told(20, self.rows), [3],
                          told(3, [[p - 1 for p in row[2:] if p > 1] for row in self.before[1:-1]])])

    def test_fill(self):
        self.assertEqual(self.then(FILL), [told(20, [self.rows[n] for n in (1, 0, 3, 2)])])

    def test_around(self):
        self.assertEqual(self.then(around(21), around(20)),
                         [[-1], told(19, [list(range(11, 20)), list(range(2, 19, 2))])])
        self.assertEqual(self.then(around(1)), [told(19, [list(range(1, 10)), list(range(2, 19, 2))])])

    def test_away(self):
        self.assertEqual(self.then(away(21), away(20)), [[-1], told(19, [list(range(1, 11)), list(range(1, 20, 2))])])
        self.assertEqual(self.then(away(1)), [told(19, [list(range(10, 20)), list(range(1, 20, 2))])])

    def test_inside(self):
        fives = [list(range(1, 6)), list(range(6, 11))]
        self.assertEqual(self.then(inside(4), inside(3)), [[-2], told(10, fives + [[]])])

    def test_outside(self):
        odd, evens = list(range(1, 11, 2)), list(range(2, 11, 2))
        self.assertEqual(self.then(outside(4), outside(0)), [[-2], told(10, [list(range(1, 11)), odd, evens])])

    def test_classes(self):
        self.assertEqual(self.then(CLASSES, gone(1), CLASSES, block(20), CLASSES),
                         [[2, 2, 0, 1, 2, 2, 3], [3], [-3], [3], [-3]])

    def test_twenty_blocks_too(self):
        rows = [list(range(1, n + 1)) for n in range(20, 0, -1)]
        other = [list(range(1, 21 - p)) for p in range(20)]
        self.assertEqual(ask_last(wide_plan(rows) + [BLOCKS, block(1), TURN, block(), TURN], 5),
                         [told(20, rows), [-5], told(20, other), [-5], told(20, rows)])


