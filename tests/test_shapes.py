"""The calls turn, fill, around, away, inside, outside and blocks."""

import random
import unittest

from evenblocksdesk.plans import answers
from lines import (BLOCKS, DEGREES, FANO, FILL, HIGHEST, MEETS, NINE, STRENGTH, TURN, around, ask, ask_last, away,
                   block, even, gone, inside, outside, plan, points, together, told)

# A block with all points, one with none, one set twice; point 5 stands in the first alone.
MIXED = [[1, 2, 3, 4, 5], [], [2, 4], [1, 3, 4], [2, 4]]


def every(v):
    return list(range(1, v + 1))


def on(kept, rows):
    """The rows on the kept points alone, these numbered anew."""
    return len(kept), [[kept.index(p) + 1 for p in row if p in kept] for row in rows]


def turn_by_hand(v, rows):
    return len(rows), [[n for n in every(len(rows)) if p in rows[n - 1]] for p in every(v)]


def fill_by_hand(v, rows):
    return v, [[p for p in every(v) if p not in row] for row in rows]


def around_by_hand(v, rows, x):
    return on([p for p in every(v) if p != x], [row for row in rows if x in row])


def away_by_hand(v, rows, x):
    return on([p for p in every(v) if p != x], [row for row in rows if x not in row])


def inside_by_hand(v, rows, n):
    return on(rows[n], rows[:n] + rows[n + 1:])


def outside_by_hand(v, rows, n):
    return on([p for p in every(v) if p not in rows[n]], rows[:n] + rows[n + 1:])


def some_plans():
    chance = random.Random(11)
    for turn in range(60):
        v = chance.randint(1, 16)
        count = chance.randint(0, 20)
        share = chance.choice([0.1, 0.5, 0.9])
        yield v, [[p for p in every(v) if chance.random() < share] for n in range(count)]


class Shapes(unittest.TestCase):
    def becomes(self, v, rows, call, shape):
        """The call answers the shape, told, and the plan is of this shape then."""
        seen = [BLOCKS, DEGREES, MEETS, together(), TURN, TURN]
        given = ask_last(plan(v, rows) + [call] + seen, 1 + len(seen))
        self.assertEqual(given[0], told(*shape), (v, rows, call))
        self.assertEqual(given[1], told(*shape), (v, rows, call))
        width, sets = shape[0], [set(row) for row in shape[1]]
        self.assertEqual(given[2], [sum(p in row for row in sets) for p in every(width)])
        self.assertEqual(given[3], [len(row & other) for n, row in enumerate(sets) for other in sets[n + 1:]])
        self.assertEqual(given[4], [len(sets)])
        self.assertEqual(given[5:], [told(*turn_by_hand(*shape)), told(*shape)] if sets else [[-5], [-5]])

    def refused(self, v, rows, call, refusal):
        """The call is refused, and all is as it was."""
        given = ask_last(plan(v, rows) + [call, BLOCKS, DEGREES, MEETS], 4)
        self.assertEqual(given[0], [refusal], (v, rows, call))
        self.assertEqual(given[1:], ask_last(plan(v, rows) + [BLOCKS, DEGREES, MEETS], 3), (v, rows, call))
        self.assertEqual(given[1], told(v, rows))


class Blocks(Shapes):
    def test_at_the_beginning(self):
        self.assertEqual(ask([BLOCKS]), [[1, 0]])

    def test_ordinary(self):
        self.assertEqual(answers([0, 4, 1, 2, 1, 3, 1, 3, 2, 3, 4, 15, 6]),
                         [1, 0, 1, 0, 1, 1, 9, 4, 2, 2, 1, 3, 3, 2, 3, 4, 4, 1, 1, 2, 1])

    def test_all_points_none_and_the_same_set(self):
        self.assertEqual(ask_last(plan(5, MIXED) + [BLOCKS]),
                         [[5, 5, 5, 1, 2, 3, 4, 5, 0, 2, 2, 4, 3, 1, 3, 4, 2, 2, 4]])

    def test_changes_nothing(self):
        self.assertEqual(ask_last(plan(5, MIXED) + [BLOCKS, BLOCKS, gone(0), BLOCKS], 4),
                         [told(5, MIXED), told(5, MIXED), [4], told(5, MIXED[1:])])

    def test_the_greatest_told(self):
        self.assertEqual(ask_last(plan(16, [every(16)] * 20) + [BLOCKS]), [told(16, [every(16)] * 20)])

    def test_behind_points(self):
        self.assertEqual(ask_last(plan(5, MIXED) + [points(3), BLOCKS]), [[3, 0]])


class Turn(Shapes):
    def test_ordinary(self):
        # Blocks 1 3, 2 3 4; turned 1, 2, 1 2, 2; then meets, degrees, together 1 2.
        self.assertEqual(answers([0, 4, 1, 2, 1, 3, 1, 3, 2, 3, 4, 8, 7, 6, 3, 2, 1, 2]),
                         [1, 0, 1, 0, 1, 1, 11, 2, 4, 1, 1, 1, 2, 2, 1, 2, 1, 2, 6, 0, 1, 0, 1, 1, 1, 2, 2, 3, 1, 1])

    def test_first_calls_behind_it(self):
        calls = [TURN, even(1), STRENGTH, gone(0), block(2, 4), block(5), BLOCKS]
        calls = plan(3, [[1, 2], [2, 3], [1, 2, 3], []]) + calls
        self.assertEqual(ask_last(calls, 7), [told(4, [[1, 3], [1, 2, 3], [2, 3]]), [0, 2, 3, 3], [-6], [2], [2], [-1],
                                              told(4, [[1, 2, 3], [2, 3], [2, 4]])])

    def test_as_many_blocks_as_points(self):
        self.becomes(7, FANO, TURN, turn_by_hand(7, FANO))
        self.assertEqual(ask_last(plan(7, FANO) + [TURN, STRENGTH]), [[3, 2]])

    def test_all_points_none_and_the_same_set(self):
        self.becomes(5, MIXED, TURN, (5, [[1, 4], [1, 3, 5], [1, 4], [1, 3, 4, 5], [1]]))
        self.becomes(3, [[]] * 2, TURN, (2, [[], [], []]))
        self.becomes(3, [every(3)] * 2, TURN, (2, [[1, 2], [1, 2], [1, 2]]))

    def test_twice(self):
        for v, rows in some_plans():
            if rows:
                self.assertEqual(ask_last(plan(v, rows) + [TURN, TURN]), [told(v, rows)])

    def test_one_point_one_block(self):
        self.becomes(1, [[1]], TURN, (1, [[1]]))
        self.becomes(1, [[]], TURN, (1, [[]]))
        self.becomes(16, [[2, 16]], TURN, (1, [[], [1]] + [[]] * 13 + [[1]]))

    def test_no_point(self):
        self.assertEqual(ask([TURN, BLOCKS]), [[-5], [1, 0]])
        self.refused(1, [], TURN, -5)
        self.refused(16, [], TURN, -5)
        self.assertEqual(ask_last(plan(4, [[1]]) + [gone(0), TURN, BLOCKS], 2), [[-5], [4, 0]])

    def test_against_sets(self):
        for v, rows in some_plans():
            if rows:
                self.becomes(v, rows, TURN, turn_by_hand(v, rows))


class Fill(Shapes):
    def test_ordinary(self):
        # Blocks 1 3, 2 3 4, none; filled 2 4, 1, all; then degrees, meets.
        self.assertEqual(answers([0, 4, 1, 2, 1, 3, 1, 3, 2, 3, 4, 1, 0, 9, 6, 7]),
                         [1, 0, 1, 0, 1, 1, 1, 2, 12, 4, 3, 2, 2, 4, 1, 1, 4, 1, 2, 3, 4, 4, 2, 2, 1, 2, 3, 0, 2, 1])

    def test_first_calls_behind_it(self):
        calls = plan(7, FANO) + [FILL, even(2), STRENGTH, gone(6), together(4, 5), block(7), BLOCKS]
        rows = [[4, 5, 6, 7], [2, 3, 6, 7], [2, 3, 4, 5], [1, 3, 5, 7], [1, 3, 4, 6], [1, 2, 5, 6], [1, 2, 4, 7]]
        self.assertEqual(ask_last(calls, 7), [told(7, rows), [1, 2], [4, 2], [6], [2], [6], told(7, rows[:6] + [[7]])])

    def test_all_points_none_and_the_same_set(self):
        self.becomes(5, MIXED, FILL, (5, [[], [1, 2, 3, 4, 5], [1, 3, 5], [2, 5], [1, 3, 5]]))
        self.becomes(1, [[], [1]], FILL, (1, [[1], []]))

    def test_twice(self):
        for v, rows in some_plans():
            self.assertEqual(ask_last(plan(v, rows) + [FILL, FILL]), [told(v, rows)])

    def test_no_blocks(self):
        self.assertEqual(ask([FILL, BLOCKS]), [[1, 0], [1, 0]])
        self.becomes(16, [], FILL, (16, []))

    def test_against_sets(self):
        for v, rows in some_plans():
            self.becomes(v, rows, FILL, fill_by_hand(v, rows))


class AroundAndAway(Shapes):
    def test_around_ordinary(self):
        # Blocks 1 3, 2 3 4, 1 4; around 3: 1, 2 3; then degrees, even 1, block 3.
        self.assertEqual(answers([0, 4, 1, 2, 1, 3, 1, 3, 2, 3, 4, 1, 2, 1, 4, 10, 3, 6, 4, 1, 1, 1, 3]),
                         [1, 0, 1, 0, 1, 1, 1, 2, 7, 3, 2, 1, 1, 2, 2, 3, 3, 1, 1, 1, 2, 1, 1, 1, 2])

    def test_away_ordinary(self):
        # Blocks 1 3, 2 3 4, 1 4; away from 3: 1 3 on three points; then degrees, even 1, block 4.
        self.assertEqual(answers([0, 4, 1, 2, 1, 3, 1, 3, 2, 3, 4, 1, 2, 1, 4, 11, 3, 6, 4, 1, 1, 1, 4]),
                         [1, 0, 1, 0, 1, 1, 1, 2, 5, 3, 1, 2, 1, 3, 3, 1, 0, 1, 4, 0, 1, 0, 2, 1, -1])

    def test_first_middle_and_last_point(self):
        self.becomes(5, MIXED, around(1), (4, [[1, 2, 3, 4], [2, 3]]))
        self.becomes(5, MIXED, around(3), (4, [[1, 2, 3, 4], [1, 3]]))
        self.becomes(5, MIXED, around(4), (4, [[1, 2, 3, 4], [2], [1, 3], [2]]))
        self.becomes(5, MIXED, around(5), (4, [[1, 2, 3, 4]]))
        self.becomes(5, MIXED, away(1), (4, [[], [1, 3], [1, 3]]))
        self.becomes(5, MIXED, away(3), (4, [[], [2, 3], [2, 3]]))
        self.becomes(5, MIXED, away(4), (4, [[]]))
        self.becomes(5, MIXED, away(5), (4, [[], [2, 4], [1, 3, 4], [2, 4]]))

    def test_known_plans(self):
        for x in every(9):
            self.becomes(9, NINE, around(x), around_by_hand(9, NINE, x))
            self.assertEqual(ask_last(plan(9, NINE) + [around(x), STRENGTH]), [[2, 1]])
            self.becomes(9, NINE, away(x), away_by_hand(9, NINE, x))
            self.assertEqual(ask_last(plan(9, NINE) + [away(x), STRENGTH]), [[3, 1]])

    def test_left_with_no_blocks(self):
        self.becomes(3, [[1], [2]], around(3), (2, []))
        self.becomes(3, [[1, 3], [3]], away(3), (2, []))
        self.becomes(2, [], around(1), (1, []))
        self.becomes(2, [], away(2), (1, []))

    def test_a_point_alone_in_its_block(self):
        self.becomes(3, [[2], [2], [1]], around(2), (2, [[], []]))

    def test_down_to_one_point(self):
        calls = plan(3, [[1, 2, 3], [1, 3], [3]]) + [around(3), away(1), around(1), BLOCKS]
        self.assertEqual(ask_last(calls, 4), [told(2, [[1, 2], [1], []]), told(1, [[]]), [-5], told(1, [[]])])

    def test_no_such_point(self):
        for x in (0, 6, 7, 16, 17, 20, 21, 64, HIGHEST):
            self.refused(5, MIXED, around(x), -1)
            self.refused(5, MIXED, away(x), -1)
        for v in every(16):
            self.refused(v, [[v]], around(v + 1), -1)
            self.refused(v, [[v]], away(v + 1), -1)

    def test_no_point_left(self):
        self.assertEqual(ask([around(1), away(1), BLOCKS]), [[-5], [-5], [1, 0]])
        for rows in ([], [[1]], [[]], [[1], [], [1]]):
            self.refused(1, rows, around(1), -5)
            self.refused(1, rows, away(1), -5)

    def test_no_such_point_is_told_before_no_point_left(self):
        for x in (0, 2, HIGHEST):
            self.assertEqual(ask([around(x), away(x), BLOCKS]), [[-1], [-1], [1, 0]])

    def test_against_sets(self):
        for v, rows in some_plans():
            for x in every(v) if v > 1 else []:
                self.assertEqual(ask_last(plan(v, rows) + [around(x)]), [told(*around_by_hand(v, rows, x))])
                self.assertEqual(ask_last(plan(v, rows) + [away(x)]), [told(*away_by_hand(v, rows, x))])


class InsideAndOutside(Shapes):
    def test_inside_ordinary(self):
        # Blocks 1 3, 2 3 4, 1 4; inside 1: 2, 3 on three points; then meets, degrees, block 3.
        self.assertEqual(answers([0, 4, 1, 2, 1, 3, 1, 3, 2, 3, 4, 1, 2, 1, 4, 12, 1, 7, 6, 1, 1, 3]),
                         [1, 0, 1, 0, 1, 1, 1, 2, 6, 3, 2, 1, 2, 1, 3, 1, 0, 3, 0, 1, 1, 1, 2])

    def test_outside_ordinary(self):
        # Blocks 1 3, 2 3 4, 1 4; outside 0: 1 2, 2 on two points; then meets, degrees, block 3.
        self.assertEqual(answers([0, 4, 1, 2, 1, 3, 1, 3, 2, 3, 4, 1, 2, 1, 4, 13, 0, 7, 6, 1, 1, 3]),
                         [1, 0, 1, 0, 1, 1, 1, 2, 7, 2, 2, 2, 1, 2, 1, 2, 1, 1, 2, 1, 2, 1, -1])

    def test_first_middle_and_last_block(self):
        self.becomes(5, MIXED, inside(0), (5, [[], [2, 4], [1, 3, 4], [2, 4]]))
        self.becomes(5, MIXED, inside(2), (2, [[1, 2], [], [2], [1, 2]]))
        self.becomes(5, MIXED, inside(3), (3, [[1, 2, 3], [], [3], [3]]))
        self.becomes(5, MIXED, inside(4), (2, [[1, 2], [], [1, 2], [2]]))
        rows = MIXED[2:] + [[1, 5]]
        self.becomes(5, rows, outside(0), (3, [[1, 2], [], [1, 3]]))
        self.becomes(5, rows, outside(1), (2, [[1], [1], [2]]))
        self.becomes(5, rows, outside(2), (3, [[], [1, 2], [1, 3]]))
        self.becomes(5, rows, outside(3), (3, [[1, 3], [2, 3], [1, 3]]))

    def test_outside_a_block_with_no_points(self):
        self.becomes(5, MIXED, outside(1), (5, [MIXED[0]] + MIXED[2:]))

    def test_known_plans(self):
        for n in range(7):
            self.becomes(7, FANO, inside(n), inside_by_hand(7, FANO, n))
            self.assertEqual(ask_last(plan(7, FANO) + [inside(n), STRENGTH]), [[1, 1]])
            self.becomes(7, FANO, outside(n), outside_by_hand(7, FANO, n))
            self.assertEqual(ask_last(plan(7, FANO) + [outside(n), STRENGTH]), [[2, 2]])

    def test_left_with_no_blocks(self):
        self.becomes(4, [[2, 4]], inside(0), (2, []))
        self.becomes(4, [[2]], outside(0), (3, []))
        self.assertEqual(ask_last(plan(4, [[2, 4]]) + [inside(0), inside(0), TURN, BLOCKS], 3), [[-2], [-5], [2, 0]])

    def test_no_such_block(self):
        for n in (5, 6, 19, 20, 64, HIGHEST):
            self.refused(5, MIXED, inside(n), -2)
            self.refused(5, MIXED, outside(n), -2)
        for n in (0, 1, HIGHEST):
            self.refused(3, [], inside(n), -2)
            self.refused(3, [], outside(n), -2)
        self.refused(16, [[1]] * 20, inside(20), -2)
        self.refused(16, [[1]] * 20, outside(20), -2)

    def test_no_point_left(self):
        self.refused(5, MIXED, inside(1), -5)
        self.refused(5, MIXED, outside(0), -5)
        self.refused(1, [[]], inside(0), -5)
        self.refused(1, [[1]], outside(0), -5)
        self.refused(16, [every(16)] * 20, outside(19), -5)

    def test_no_such_block_is_told_before_no_point_left(self):
        self.refused(1, [[]], inside(1), -2)
        self.refused(1, [[1]], outside(1), -2)
        self.assertEqual(ask([inside(0), outside(0), BLOCKS]), [[-2], [-2], [1, 0]])

    def test_against_sets(self):
        for v, rows in some_plans():
            for n, row in enumerate(rows):
                within = told(*inside_by_hand(v, rows, n)) if row else [-5]
                without = told(*outside_by_hand(v, rows, n)) if len(row) < v else [-5]
                self.assertEqual(ask_last(plan(v, rows) + [inside(n)]), [within])
                self.assertEqual(ask_last(plan(v, rows) + [outside(n)]), [without])


class OneBehindAnother(Shapes):
    def step(self, v, rows, call):
        """What one call answers, and the plan then."""
        kind, number = call[0], call[-1]
        if kind in (10, 11):
            if not 1 <= number <= v:
                return [-1], v, rows
            shape = (around_by_hand if kind == 10 else away_by_hand)(v, rows, number)
        elif kind in (12, 13):
            if number >= len(rows):
                return [-2], v, rows
            shape = (inside_by_hand if kind == 12 else outside_by_hand)(v, rows, number)
        else:
            shape = (turn_by_hand if kind == 8 else fill_by_hand)(v, rows)
        if shape[0] == 0:
            return [-5], v, rows
        return told(*shape), shape[0], shape[1]

    def test_against_sets(self):
        chance = random.Random(5)
        for v, rows in some_plans():
            before = plan(v, rows)
            calls = []
            given = []
            for turn in range(40 - len(before)):
                number = chance.choice([chance.randint(0, 4), chance.randint(0, 20)])
                call = chance.choice([TURN, FILL, around(number), away(number), inside(number), outside(number)])
                answer, v, rows = self.step(v, rows, call)
                calls.append(call)
                given.append(answer)
            self.assertEqual(ask_last(before + calls, len(calls)), given)


if __name__ == "__main__":
    unittest.main()
