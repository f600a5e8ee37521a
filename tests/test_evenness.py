"""The calls even and strength."""

import itertools
import random
import unittest

from lines import FANO, HIGHEST, NINE, STRENGTH, ask, ask_last, block, eight, even, gone, look, plan, points


def counts(v, rows, t):
    """For each choice of t points, in order, in how many rows it stands."""
    sets = [set(row) for row in rows]
    return [(choice, sum(row.issuperset(choice) for row in sets))
            for choice in itertools.combinations(range(1, v + 1), t)]


def even_by_hand(v, rows, t):
    every = counts(v, rows, t)
    first = every[0][1]
    for choice, count in every:
        if count != first:
            return [0, first, count] + list(choice)
    return [1, first]


def strength_by_hand(v, rows):
    sizes = {len(row) for row in rows}
    if len(sizes) != 1:
        return [-6]
    size = sizes.pop()
    t = 0
    while t < size and len({count for choice, count in counts(v, rows, t + 1)}) == 1:
        t += 1
    return [size, t]


def every_choice(v, size):
    return [list(choice) for choice in itertools.combinations(range(1, v + 1), size)]


def some_plans():
    """Plans of all sizes, among them many that are even for something."""
    chance = random.Random(7)
    for turn in range(150):
        v = chance.randint(1, 9)
        size = chance.randint(0, v)
        rows = every_choice(v, size)
        chance.shuffle(rows)
        rows = (rows * 20)[:chance.randint(0, 20)] if turn % 3 else rows[:20]
        if turn % 5 == 0:
            rows = [sorted(chance.sample(range(1, v + 1), chance.randint(0, v))) for row in rows]
        yield v, rows


class Even(unittest.TestCase):
    def test_for_0(self):
        self.assertEqual(ask([points(5), even(0), block(1), even(0), block(), even(0)]),
                         [[0], [1, 0], [0], [1, 1], [1], [1, 2]])
        self.assertEqual(ask_last(plan(16, [[1]] * 20) + [even(0)]), [[1, 20]])

    def test_even(self):
        self.assertEqual(ask_last(plan(7, FANO) + [even(1), even(2)], 2), [[1, 3], [1, 1]])
        self.assertEqual(ask_last(plan(8, eight()) + [even(1), even(2), even(3)], 3), [[1, 7], [1, 3], [1, 1]])
        self.assertEqual(ask_last(plan(5, every_choice(5, 4)) + [even(t) for t in range(5)], 5),
                         [[1, 5], [1, 4], [1, 3], [1, 2], [1, 1]])

    def test_even_with_none_together(self):
        self.assertEqual(ask([points(16)] + [even(t) for t in range(5)])[1:], [[1, 0]] * 5)
        self.assertEqual(ask_last(plan(4, [[1], [2], [3], [4]]) + [even(1), even(2), even(3), even(4)], 4),
                         [[1, 1], [1, 0], [1, 0], [1, 0]])

    def test_even_for_more_though_not_for_less(self):
        self.assertEqual(ask_last(plan(3, [[1]]) + [even(1), even(2)], 2), [[0, 1, 0, 2], [1, 0]])

    def test_not_even_for_1(self):
        self.assertEqual(ask_last(plan(4, [[1, 2, 4], [1, 2]]) + [even(1)]), [[0, 2, 0, 3]])
        self.assertEqual(ask_last(plan(16, [[16]]) + [even(1)]), [[0, 0, 1, 16]])

    def test_not_even_for_2(self):
        self.assertEqual(ask_last(plan(4, [[1, 2], [3, 4]]) + [even(2)]), [[0, 1, 0, 1, 3]])
        self.assertEqual(ask_last(plan(4, [[3, 4]]) + [even(2)]), [[0, 0, 1, 3, 4]])
        self.assertEqual(ask_last(plan(4, [[2, 3], [1, 4]]) + [even(2)]), [[0, 0, 1, 1, 4]])

    def test_not_even_for_3_and_4(self):
        self.assertEqual(ask_last(plan(7, FANO) + [even(3), even(4)], 2), [[0, 1, 0, 1, 2, 4], [1, 0]])
        self.assertEqual(ask_last(plan(8, eight()) + [even(4)]), [[0, 0, 1, 1, 2, 3, 8]])
        self.assertEqual(ask_last(plan(16, [[13, 14, 15, 16]]) + [even(4)]), [[0, 0, 1, 13, 14, 15, 16]])
        self.assertEqual(ask_last(plan(5, [[1, 2, 3, 4]] * 3) + [even(4)]), [[0, 3, 0, 1, 2, 3, 5]])

    def test_as_many_points_as_t(self):
        for t in range(1, 5):
            every = list(range(1, t + 1))
            self.assertEqual(ask_last(plan(t, [every, every, []]) + [even(t)]), [[1, 2]])

    def test_refused(self):
        self.assertEqual(ask([points(16)] + [even(t) for t in (5, 6, 16, 17, HIGHEST)])[1:], [[-1]] * 5)
        for v in range(1, 5):
            told = ask(plan(v, [[1]]) + [even(t) for t in range(v, 6)])
            self.assertEqual(told[3:], [[-1]] * (5 - v))
            self.assertNotEqual(told[2], [-1])

    def test_all_is_as_it_was(self):
        before = plan(4, [[1, 2], [2, 3, 4]])
        seen = look(4)
        for call in ([even(1)], [even(2)], [even(5)], [even(HIGHEST)], [STRENGTH]):
            self.assertEqual(ask_last(before + call + seen, len(seen)), ask_last(before + seen, len(seen)))

    def test_against_counting(self):
        for v, rows in some_plans():
            calls = [even(t) for t in range(min(v, 4) + 1)]
            told = [even_by_hand(v, rows, t) for t in range(min(v, 4) + 1)]
            self.assertEqual(ask_last(plan(v, rows) + calls, len(calls)), told, (v, rows))


class Strength(unittest.TestCase):
    def test_ordinary(self):
        self.assertEqual(ask_last(plan(7, FANO) + [STRENGTH]), [[3, 2]])
        self.assertEqual(ask_last(plan(7, FANO * 2) + [STRENGTH]), [[3, 2]])
        self.assertEqual(ask_last(plan(9, NINE) + [STRENGTH]), [[3, 2]])
        self.assertEqual(ask_last(plan(8, eight()) + [STRENGTH]), [[4, 3]])
        self.assertEqual(ask_last(plan(4, [[1, 2], [3, 4]]) + [STRENGTH]), [[2, 1]])
        self.assertEqual(ask_last(plan(4, [[1, 2], [2, 3]]) + [STRENGTH]), [[2, 0]])

    def test_no_more_though_it_is_even_for_more(self):
        # Even for 3 and 4, but not for 2; the blocks have two points.
        self.assertEqual(ask_last(plan(4, [[1, 2], [3, 4]]) + [even(3), even(4), STRENGTH], 3), [[1, 0], [1, 0], [2, 1]])
        self.assertEqual(ask_last(plan(3, [[1], [2], [3]]) + [even(2), STRENGTH], 2), [[1, 0], [1, 1]])

    def test_as_many_as_each_block_has_points(self):
        for v in range(1, 17):
            every = list(range(1, v + 1))
            self.assertEqual(ask_last(plan(v, [every] * 3) + [STRENGTH]), [[v, v]])
            self.assertEqual(ask_last(plan(v, every_choice(v, v - 1)) + [STRENGTH]), [[v - 1, v - 1]])
            self.assertEqual(ask_last(plan(v, every_choice(v, 1)) + [STRENGTH]), [[1, 1]])
        self.assertEqual(ask_last(plan(6, every_choice(6, 3)) + [STRENGTH]), [[3, 3]])
        self.assertEqual(ask_last(plan(5, every_choice(5, 2) * 2) + [STRENGTH]), [[2, 2]])

    def test_blocks_without_points(self):
        self.assertEqual(ask([block(), STRENGTH]), [[0], [0, 0]])
        self.assertEqual(ask_last(plan(16, [[]] * 20) + [STRENGTH]), [[0, 0]])

    def test_above_4(self):
        self.assertEqual(ask_last(plan(16, [list(range(1, 17))] * 20) + [STRENGTH]), [[16, 16]])
        self.assertEqual(ask_last(plan(7, every_choice(7, 6)) + [STRENGTH]), [[6, 6]])

    def test_refused(self):
        self.assertEqual(ask([STRENGTH, points(7), STRENGTH]), [[-6], [0], [-6]])
        self.assertEqual(ask_last(plan(3, [[1, 2], [1]]) + [STRENGTH]), [[-6]])
        self.assertEqual(ask_last(plan(3, [[1], [1, 2]]) + [STRENGTH]), [[-6]])
        self.assertEqual(ask_last(plan(7, FANO + [[]]) + [STRENGTH]), [[-6]])
        self.assertEqual(ask_last(plan(2, [[1]]) + [gone(0), STRENGTH]), [[-6]])

    def test_alike_again_behind_gone(self):
        self.assertEqual(ask_last(plan(7, FANO + [[1]]) + [STRENGTH, gone(7), STRENGTH], 3), [[-6], [7], [3, 2]])

    def test_against_counting(self):
        for v, rows in some_plans():
            self.assertEqual(ask_last(plan(v, rows) + [STRENGTH]), [strength_by_hand(v, rows)], (v, rows))


if __name__ == "__main__":
    unittest.main()
