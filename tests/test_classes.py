"""The call classes."""

import itertools
import random
import unittest

from evenblocksdesk.plans import answers
from lines import (BLOCKS, CLASSES, DEGREES, FANO, MEETS, NINE, around, ask, ask_last, block, gone, outside, plan, told,
                   wide_plan)

# Three at each point, and no way, though there are classes.
PETERSEN = [[1, 2], [2, 3], [3, 4], [4, 5], [1, 5], [1, 6], [2, 7], [3, 8], [4, 9], [5, 10],
            [6, 8], [8, 10], [7, 10], [7, 9], [6, 9]]


def ring(low, high):
    """Each two neighbours among the points, which stand in a ring."""
    return [[p, p + 1] for p in range(low, high)] + [[low, high]]


def way_told(way):
    return [len(way)] + [number for members in way for number in [len(members)] + members]


def class_told(v, rows, members):
    """The numbers in order, or None if it's not a class."""
    if sorted(p for n in members for p in rows[n]) != list(range(1, v + 1)):
        return None
    return sorted(members, key=lambda n: min(rows[n]))


def splits(numbers):
    """Every way to part the numbers; the first part has the first number, and so on."""
    if not numbers:
        return [[]]
    others = numbers[1:]
    return [[[numbers[0], *taken]] + rest
            for size in range(len(numbers))
            for taken in itertools.combinations(others, size)
            for rest in splits([n for n in others if n not in taken])]


def classes_by_hand(v, rows):
    """By walking all ways to part the blocks."""
    if [] in rows:
        return [-6]
    ways = []
    for parts in splits(list(range(len(rows)))):
        way = [class_told(v, rows, members) for members in parts]
        if None not in way:
            ways.append(way)
    return way_told(min(ways)) if ways else [-3]


def parted(chance, v):
    """The points, in some blocks that have each once."""
    left = chance.sample(range(1, v + 1), v)
    rows = []
    while left:
        size = chance.randint(1, len(left))
        rows.append(sorted(left[:size]))
        left = left[size:]
    return rows


class Classes(unittest.TestCase):
    def answers_on(self, v, rows, answer):
        self.assertEqual(ask_last(plan(v, rows) + [CLASSES]), [answer], (v, rows))

    def is_a_way(self, v, rows, answer):
        """Whether it's one at all, in its order."""
        way = []
        rest = answer[1:]
        while rest:
            way.append(rest[1:1 + rest[0]])
            rest = rest[1 + rest[0]:]
        self.assertEqual(way_told(way), answer)
        self.assertEqual(sorted(n for members in way for n in members), list(range(len(rows))))
        self.assertEqual([min(members) for members in way], sorted(min(members) for members in way))
        for members in way:
            self.assertEqual(class_told(v, rows, members), members)


class Ways(Classes):
    def test_ordinary(self):
        # Blocks 1 2, 3 4, 1 3, 2 4; then degrees, block 1 4, classes, block 2 3, classes.
        line = [0, 4, 1, 2, 1, 2, 1, 2, 3, 4, 1, 2, 1, 3, 1, 2, 2, 4, 14, 6, 1, 2, 1, 4, 14, 1, 2, 2, 3, 14, 7]
        self.assertEqual(answers(line), [1, 0, 1, 0, 1, 1, 1, 2, 1, 3, 7, 2, 2, 0, 1, 2, 2, 3, 4, 2, 2, 2, 2, 1, 4,
                                         1, -3, 1, 5, 10, 3, 2, 0, 1, 2, 2, 3, 2, 4, 5,
                                         15, 0, 1, 1, 1, 1, 1, 1, 1, 1, 0, 1, 1, 1, 1, 0])

    def test_nine(self):
        self.answers_on(9, NINE, [4, 3, 0, 1, 2, 3, 3, 4, 5, 3, 6, 7, 8, 3, 9, 10, 11])

    def test_no_blocks(self):
        self.assertEqual(ask([CLASSES, BLOCKS]), [[0], [1, 0]])
        self.answers_on(16, [], [0])
        self.assertEqual(ask_last(plan(3, [[1]]) + [CLASSES, gone(0), CLASSES], 3), [[-3], [0], [0]])

    def test_one_class(self):
        self.answers_on(1, [[1]], [1, 1, 0])
        self.answers_on(3, [[1, 2, 3]], [1, 1, 0])
        self.answers_on(4, [[1, 2], [3], [4]], [1, 3, 0, 1, 2])
        self.answers_on(16, [[p] for p in range(1, 17)], [1, 16] + list(range(16)))

    def test_order_within_a_class(self):
        self.answers_on(4, [[4], [3], [1, 2]], [1, 3, 2, 1, 0])
        self.answers_on(5, [[3], [2, 5], [1, 4]], [1, 3, 2, 1, 0])
        self.answers_on(6, [[5], [2, 6], [4], [1, 3]], [1, 4, 3, 1, 2, 0])
        self.answers_on(16, [[p] for p in range(16, 0, -1)], [1, 16] + list(range(15, -1, -1)))

    def test_order_of_the_classes(self):
        # The lowest block comes first, not the lowest number that's told first.
        self.answers_on(3, [[3], [1, 2, 3], [1, 2]], [2, 2, 2, 0, 1, 1])
        self.answers_on(4, [[3, 4], [2, 4], [1, 3], [1, 2]], [2, 2, 3, 0, 2, 2, 1])
        self.answers_on(2, [[2], [2], [1, 2], [1], [1]], [3, 2, 3, 0, 2, 4, 1, 1, 2])

    def test_the_same_set_several_times(self):
        self.answers_on(2, [[1], [1], [1], [2], [2], [2]], [3, 2, 0, 3, 2, 1, 4, 2, 2, 5])
        self.answers_on(2, [[2], [2], [1], [1]], [2, 2, 2, 0, 2, 3, 1])
        self.answers_on(4, [[1, 2]] * 2 + [[3], [4]] * 2, [2, 3, 0, 2, 3, 3, 1, 4, 5])
        self.answers_on(4, [[3, 4], [1, 2], [1, 2], [3, 4]], [2, 2, 1, 0, 2, 2, 3])

    def test_a_block_with_all_points_is_a_class_alone(self):
        self.answers_on(3, [[1, 2, 3]] * 4, [4, 1, 0, 1, 1, 1, 2, 1, 3])
        self.answers_on(3, [[2, 3], [1, 2, 3], [1]], [2, 2, 2, 0, 1, 1])
        self.answers_on(1, [[1]] * 20, [20] + [number for n in range(20) for number in (1, n)])

    def test_of_two_ways_the_first(self):
        # Block 0 goes with 1 2 or with 3; the lower number at the second place is the first.
        self.answers_on(4, [[1, 2], [3], [4], [3, 4], [1, 2]], [2, 3, 0, 1, 2, 2, 4, 3])
        self.answers_on(4, [[1, 2], [3, 4], [3], [4], [1, 2]], [2, 2, 0, 1, 3, 4, 2, 3])
        # The lower number at the first place, which is not that of block 0.
        self.answers_on(2, [[2], [1], [1], [2]], [2, 2, 1, 0, 2, 2, 3])

    def test_the_numbers_count_not_how_many(self):
        # 0 1 2 comes before 0 3, though it's longer; 0 1 before 0 2 3, though it's shorter.
        rows = [[1], [2], [3], [2, 3], [1]]
        self.answers_on(3, rows, [2, 3, 0, 1, 2, 2, 4, 3])
        rows = [[1], [2, 3], [2], [3], [1]]
        self.answers_on(3, rows, [2, 2, 0, 1, 3, 4, 2, 3])

    def test_the_first_choice_cannot_be_gone_on_with(self):
        # 0 1 3 is a class, but leaves 1 2, 2 3 and 1 3.
        self.answers_on(3, [[1], [2], [1, 2], [3], [2, 3], [1, 3]], [3, 2, 0, 4, 2, 5, 1, 2, 2, 3])
        self.answers_on(3, [[3], [1, 3], [2], [1], [2, 3], [1, 2]], [3, 2, 5, 0, 2, 1, 2, 2, 3, 4])
        # Within a class: 0 1 can't be made full, 0 2 can.
        self.answers_on(4, [[1], [2, 3], [2], [3, 4]], [-3])
        self.answers_on(4, [[1], [2, 3], [2], [3, 4], [1, 4]], [2, 3, 0, 2, 3, 2, 4, 1])

    def test_changes_nothing(self):
        self.assertEqual(ask_last(plan(9, NINE) + [CLASSES, BLOCKS, CLASSES], 2),
                         [told(9, NINE), [4, 3, 0, 1, 2, 3, 3, 4, 5, 3, 6, 7, 8, 3, 9, 10, 11]])

    def test_behind_other_shapes(self):
        self.assertEqual(ask_last(plan(7, FANO) + [outside(0), CLASSES]), [[3, 2, 0, 1, 2, 2, 3, 2, 4, 5]])
        self.assertEqual(ask_last(plan(9, NINE) + [around(1), CLASSES]), [[1, 4, 0, 1, 2, 3]])
        self.assertEqual(ask_last(plan(9, NINE) + [gone(1), CLASSES]), [[-3]])

    def test_against_all_partings(self):
        chance = random.Random(3)
        ends = set()
        for turn in range(250):
            v = chance.randint(1, 5)
            rows = [row for part in range(chance.randint(0, 4)) for row in parted(chance, v)][:8]
            chance.shuffle(rows)
            if turn % 10 == 0:
                rows = rows[:7] + [sorted(chance.sample(range(1, v + 1), chance.randint(0, v)))]
            answer = classes_by_hand(v, rows)
            ends.add(min(answer[0], 3))
            self.answers_on(v, rows, answer)
        self.assertEqual(ends, {-6, -3, 0, 1, 2, 3})


class NoWay(Classes):
    def refused(self, v, rows, refusal):
        given = ask_last(plan(v, rows) + [CLASSES, BLOCKS, DEGREES, MEETS], 4)
        self.assertEqual(given, [[refusal]] + ask_last(plan(v, rows) + [BLOCKS, DEGREES, MEETS], 3), (v, rows))

    def test_a_block_has_no_points(self):
        self.refused(1, [[]], -6)
        self.refused(3, [[1, 2, 3], []], -6)
        self.refused(9, [[]] + NINE, -6)
        self.refused(9, NINE[:5] + [[]] + NINE[5:], -6)
        self.refused(9, NINE + [[]], -6)
        self.refused(16, [[]] * 20, -6)
        self.assertEqual(ask([block(), CLASSES, gone(0), CLASSES]), [[0], [-6], [0], [0]])

    def test_no_points_are_told_before_no_way(self):
        self.refused(3, [[1], []], -6)
        self.refused(3, [[], [1]], -6)

    def test_no_way(self):
        self.refused(2, [[1]], -3)
        self.refused(2, [[2]], -3)
        self.refused(3, [[1, 2], [2, 3]], -3)
        self.refused(7, FANO, -3)
        self.refused(2, [[1, 2], [1]], -3)
        self.refused(2, [[1], [1], [2]], -3)
        self.refused(16, [list(range(1, 16))], -3)

    def test_no_way_though_points_stand_in_as_many(self):
        self.refused(3, ring(1, 3), -3)
        self.refused(10, PETERSEN, -3)
        self.refused(16, ring(1, 7) + ring(8, 16), -3)

    def test_no_way_though_the_first_classes_are_there(self):
        self.refused(3, [[1, 2, 3], [1], [2, 3], [2]], -3)
        self.refused(3, [[1, 2, 3]] * 3 + ring(1, 3), -3)


class Greatest(Classes):
    """Twenty blocks, on up to twenty points."""

    def answer_on(self, rows):
        """What classes answers on twenty points."""
        given = ask_last(wide_plan(rows) + [BLOCKS, CLASSES, BLOCKS], 3)
        self.assertEqual(given[0], told(20, rows))
        self.assertEqual(given[2], told(20, rows))
        return given[1]

    def test_one_class(self):
        self.assertEqual(self.answer_on([[p] for p in range(1, 21)]), [1, 20] + list(range(20)))
        self.assertEqual(self.answer_on([[p] for p in range(20, 0, -1)]), [1, 20] + list(range(19, -1, -1)))

    def test_twenty_classes(self):
        self.assertEqual(self.answer_on([list(range(1, 21))] * 20),
                         [20] + [number for n in range(20) for number in (1, n)])

    def test_a_ring(self):
        # 1 2, 3 4 and so on; then 1 20, which is the last block, 2 3, and so on.
        way = [list(range(0, 19, 2)), [19] + list(range(1, 18, 2))]
        self.assertEqual(self.answer_on(ring(1, 20)), way_told(way))

    def test_the_same_sets_over_and_over(self):
        fives = [list(range(low, low + 5)) for low in (1, 6, 11, 16)]
        self.assertEqual(self.answer_on(fives * 5),
                         [5] + [number for n in range(5) for number in [4] + list(range(4 * n, 4 * n + 4))])
        self.assertEqual(self.answer_on(sorted(fives * 5)),
                         [5] + [number for n in range(5) for number in [4, n, n + 5, n + 10, n + 15]])
        twos = [[p, p + 10] for p in range(1, 11)]
        self.assertEqual(self.answer_on(twos + twos), [2, 10] + list(range(10)) + [10] + list(range(10, 20)))

    def test_no_way(self):
        self.assertEqual(self.answer_on(ring(1, 9) + ring(10, 20)), [-3])
        low, high = list(range(11, 16)), list(range(16, 21))
        self.assertEqual(self.answer_on(PETERSEN + [low, high, low, high, low + high]), [-3])
        self.assertEqual(self.answer_on([low + high, low, high, low, high] + PETERSEN), [-3])
        threes = [list(range(low, low + 3)) for low in range(1, 19, 3)] + [[19, 20]]
        self.assertEqual(self.answer_on((threes * 3)[:20]), [-3])
        self.assertEqual(self.answer_on([[1, 2]] * 20), [-3])

    def test_as_many_classes_to_choose_from_as_can_be(self):
        for size, times in ((2, 10), (4, 5), (5, 4), (10, 2)):
            rows = [[p] for p in range(1, size + 1)] * times
            way = [list(range(size * n, size * n + size)) for n in range(times)]
            self.answers_on(size, rows, way_told(way))
            self.answers_on(size, rows[:-1] + [[1]], [-3])

    def test_the_first_choices_cannot_be_gone_on_with(self):
        # Every class that begins with 0 1 3 is of no use, whichever of the blocks behind 5 are in it.
        rows = [[1], [2], [1, 2], [3], [2, 3], [1, 3]] + [[4], [5]] * 3
        rows = rows + [[6, 9], [6, 9], [6], [9]] + [[7, 8], [7, 8], [7], [8]]
        way = [[0, 4, 6, 7, 12, 16], [5, 1, 8, 9, 13, 17], [2, 3, 10, 11, 14, 18, 19, 15]]
        self.answers_on(9, rows, way_told(way))

    def test_many_shuffled(self):
        chance = random.Random(9)
        for turn in range(40):
            v = 20 if turn % 2 else chance.randint(6, 16)
            rows = []
            for part in range(20):
                more = parted(chance, v)
                rows += more if len(rows) + len(more) <= 20 else []
            rows = rows + [list(range(1, v + 1))] * (20 - len(rows))
            chance.shuffle(rows)
            answer = self.answer_on(rows) if v == 20 else ask_last(plan(v, rows) + [CLASSES])[0]
            self.is_a_way(v, rows, answer)


if __name__ == "__main__":
    unittest.main()
