"""Promise 2: same."""

import unittest

from gridsteps.desk import same
from tests.helper import (
    WRONG_NUMBERS, WRONG_SIZES, GuardedList, det_by_orders, identity, joined,
    mixed_numbers, rows_of, scaled, stair_rows, told_otherwise,
)


def with_row_times(n, numbers, place, factor):
    rows = rows_of(n, numbers)
    rows[place] = [factor * x for x in rows[place]]
    return joined(rows)


class SameAnswers(unittest.TestCase):

    def both_ways(self, n, a, b, told):
        self.assertEqual(same(n, a, b), [told])
        self.assertEqual(same(n, b, a), [told])

    def test_one_number(self):
        self.both_ways(1, [3], [3], 1)
        self.both_ways(1, [3], [-3], 1)
        self.both_ways(1, [-1000], [1000], 1)
        self.both_ways(1, [3], [6], 0)
        self.both_ways(1, [3], [-6], 0)
        self.both_ways(1, [4], [6], 0)
        self.both_ways(1, [999], [1000], 0)

    def test_two_rows(self):
        self.both_ways(2, [2, 1, 0, 3], [2, 4, 2, 1], 1)
        self.both_ways(2, [1, 0, 0, 1], [5, 3, 3, 2], 1)
        self.both_ways(2, [1, 0, 0, 1], [1, 1000, 0, -1], 1)
        self.both_ways(2, [1000, 0, 0, 1], [-1000, 1, 1000, 0], 1)

    def test_the_same_grid_by_other_rows(self):
        asked = 0
        for n in range(1, 6):
            for seed in range(25):
                a = mixed_numbers(n * n, seed, 4)
                b = told_otherwise(n, a, seed + 100)
                if det_by_orders(n, a) != 0 and max(abs(x) for x in b) <= 1000:
                    self.both_ways(n, a, b, 1)
                    asked += 1
        self.assertGreater(asked, 60)

    def test_a_grid_with_itself(self):
        for n in range(1, 6):
            a = mixed_numbers(n * n, 3, 1000)
            self.assertEqual(same(n, a, list(a)), [1])
            self.assertEqual(same(n, a, a), [1])

    def test_one_grid_within_the_other(self):
        for n in range(1, 6):
            for place in range(n):
                for factor in (2, -3):
                    a = mixed_numbers(n * n, 8, 9)
                    b = told_otherwise(n, with_row_times(n, a, place, factor), 1)
                    self.assertNotEqual(det_by_orders(n, a), 0)
                    self.assertLessEqual(max(abs(x) for x in b), 1000)
                    self.both_ways(n, a, b, 0)
        self.both_ways(2, [1, 0, 0, 1], [1, 1, 1, -1], 0)

    def test_neither_grid_within_the_other(self):
        self.both_ways(2, [2, 0, 0, 3], [1, 0, 0, 6], 0)
        self.both_ways(2, [2, 0, 0, 1], [1, 0, 0, 2], 0)
        self.both_ways(2, [2, 0, 0, 1], [1, 0, 0, -3], 0)
        self.both_ways(3, [1, 0, 0, 0, 1, 0, 0, 0, 2],
                       [1, 0, 1, 0, 1, 0, 0, 0, 2], 0)
        for n in range(2, 6):
            # The same determinant each time, and another grid.
            grids = [scaled(n, [2 if at == place else 1 for at in range(n)])
                     for place in range(n)]
            for one in range(n):
                for other in range(n):
                    self.assertEqual(same(n, grids[one], grids[other]),
                                     [1 if one == other else 0])

    def test_against_the_rows_that_stand_for_all(self):
        told = {0: 0, 1: 0}
        for n in range(1, 4):
            rows = [numbers for numbers in
                    [mixed_numbers(n * n, seed, 2) for seed in range(40)]
                    if det_by_orders(n, numbers) != 0]
            for a in rows:
                for b in rows:
                    alike = 1 if stair_rows(n, a) == stair_rows(n, b) else 0
                    self.assertEqual(same(n, a, b), [alike])
                    told[alike] += a != b
        self.assertGreater(min(told[0], told[1]), 50)

    def test_bounds_are_answered(self):
        for n in range(1, 6):
            self.both_ways(n, scaled(n, [1000] * n), scaled(n, [-1000] * n), 1)
            self.both_ways(n, scaled(n, [1000] * n), identity(n), 0)


class SameRefusals(unittest.TestCase):

    def test_size_out_of_bounds(self):
        for n in WRONG_SIZES:
            self.assertEqual(same(n, [], []), [-2])

    def test_determinant_of_zero(self):
        for n in range(1, 6):
            flat = joined(rows_of(n, identity(n))[:-1] + [[0] * n])
            self.assertEqual(same(n, flat, identity(n)), [-3])
            self.assertEqual(same(n, identity(n), flat), [-3])
            self.assertEqual(same(n, flat, flat), [-3])
            self.assertEqual(same(n, [0] * (n * n), flat), [-3])
        self.assertEqual(same(2, [1, 2, 2, 4], [1, 2, 0, 1]), [-3])
        self.assertEqual(same(2, [1, 2, 0, 1], [1, 2, 2, 4]), [-3])
        self.assertEqual(same(3, [1, 2, 3, 4, 5, 6, 7, 8, 9], identity(3)), [-3])

    def test_number_out_of_bounds_at_each_place(self):
        for n in range(1, 6):
            for place in range(n * n):
                for number in WRONG_NUMBERS:
                    wrong = identity(n)
                    wrong[place] = number
                    self.assertEqual(same(n, wrong, identity(n)), [-3])
                    self.assertEqual(same(n, identity(n), wrong), [-3])
                    self.assertEqual(same(n, wrong, wrong), [-3])

    def test_number_out_of_bounds_and_determinant_of_zero(self):
        self.assertEqual(same(1, [0], [1001]), [-3])
        self.assertEqual(same(1, [-1001], [0]), [-3])


class SameManners(unittest.TestCase):

    def test_the_lists_stay_as_they_were(self):
        for n in range(1, 6):
            for a in (mixed_numbers(n * n, 3, 9), [0] * (n * n), [1001] * (n * n)):
                for b in (identity(n), told_otherwise(n, a, 2), [0] * (n * n)):
                    first = GuardedList(a)
                    second = GuardedList(b)
                    same(n, first, second)
                    self.assertEqual(list(first), a)
                    self.assertEqual(list(second), b)

    def test_the_same_call_twice(self):
        for n in range(1, 6):
            a = mixed_numbers(n * n, 3, 9)
            calls = [(n, a, told_otherwise(n, a, 2), 1), (n, a, identity(n), 0),
                     (n, a, [0] * (n * n), -3), (0, [], [], -2)]
            for size, one, other, told in calls + calls:
                answer = same(size, one, other)
                self.assertEqual(answer, [told])
                # What was given back is the caller's own: no later call sees it.
                answer.append(5)


if __name__ == "__main__":
    unittest.main()
