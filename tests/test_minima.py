"""Promise 4: minima."""

import unittest

from gridsteps.desk import minima, short
from tests.helper import (
    BOUNDS, SIGNS, RowsCallTests, det_by_orders, identity, mixed_numbers,
    pairs_of_one_grid, points_in_box, points_up_to, rows_at_bounds, rows_of,
    rows_of_all_lengths, scaled, square_of, squares_of_free, two_short,
)


def centred(n):
    """The rows of twice all whole numbers, but the last of 1 alone."""
    return scaled(n, [2] * n)[:n * n - n] + [1] * n


class MinimaAnswers(unittest.TestCase):

    def test_one_row(self):
        for number in (1, 7, 999, 1000):
            self.assertEqual(minima(1, [number]), [0, number * number])
            self.assertEqual(minima(1, [-number]), [0, number * number])

    def test_no_row_is_so_short(self):
        self.assertEqual(minima(2, [5, 3, 3, 2]), [0, 1, 1])
        self.assertEqual(minima(2, [19, 191, 30, 204]), [0, 290, 11876])
        self.assertEqual(minima(2, [584, -559, 966, -661]), [0, 156328, 158425])
        self.assertEqual(minima(3, [4, -7, 8, 1, -1, -9, 3, -8, -4]), [0, 13, 35, 53])
        self.assertEqual(minima(3, [-10, -4, -5, 8, 4, 9, 10, -5, -3]), [0, 20, 86, 97])

    def test_four_and_five_rows_longer_than_all_minima(self):
        for n, numbers, told in (
                (4, [-7, 8, -4, -7, -3, -9, 5, 8, 2, 6, 4, 9, 3, 7, -5, -9],
                 [5, 26, 38, 45]),
                (4, [1, -7, 0, -4, -5, -1, 6, 1, 0, -8, -7, 8, 8, -9, -9, -6],
                 [9, 10, 10, 34]),
                (5, [3, -1, 1, 1, 3, 3, 2, 0, -1, -3, -1, 2, -2, -3, -3,
                     3, -3, 2, -1, -1, 2, 3, 3, 2, 1],
                 [10, 11, 13, 15, 19]),
                (5, [0, 1, -3, -3, -2, -1, 3, 1, 0, 0, -3, 2, 0, 0, -2,
                     3, 2, 1, -2, 2, 1, -1, 0, -1, -3],
                 [5, 6, 8, 10, 10])):
            self.assertLess(max(told), min(square_of(row) for row in rows_of(n, numbers)))
            self.assertEqual(minima(n, numbers), [0] + told)
            points = points_up_to(n, numbers, max(told))
            self.assertEqual(squares_of_free(points), told)

    def test_minima_less_than_any_rows_of_the_grid(self):
        # Twice each axis is free of the others, but those five are no rows of
        # the whole grid: one of its rows has odd numbers, and the square 5.
        self.assertEqual(minima(5, centred(5)), [0, 4, 4, 4, 4, 4])
        self.assertEqual(minima(5, centred(5)[20:] + centred(5)[:20]), [0, 4, 4, 4, 4, 4])
        other = [1, 1, 1, 1, 1, -1, 1, 1, 1, 1, 1, -1, 1, 1, 1, 1, 1, -1, 1, 1, 1, 1, 1, -1, 1]
        self.assertEqual(minima(5, other), [0, 4, 4, 4, 4, 4])
        self.assertEqual(minima(4, centred(4)), [0, 4, 4, 4, 4])
        self.assertEqual(minima(3, centred(3)), [0, 3, 3, 3])

    def test_shortest_points_that_are_not_free(self):
        # (1, 0), (2, 0) and (3, 0) are all shorter than (0, 10).
        self.assertEqual(minima(2, [1, 0, 0, 10]), [0, 1, 100])
        self.assertEqual(minima(2, [7, 10, 1, 0]), [0, 1, 100])
        self.assertEqual(minima(2, [1, -1, 1000, 1000]), [0, 2, 2000000])
        self.assertEqual(minima(3, scaled(3, [1, 1, 30])), [0, 1, 1, 900])
        self.assertEqual(minima(3, scaled(3, [1, 8, 30])), [0, 1, 64, 900])
        # The sum of the first two is as short as each of them.
        self.assertEqual(minima(3, [1, -1, 0, 0, 1, -1, 30, 30, 30]), [0, 2, 2, 2700])
        self.assertEqual(minima(4, [1, -1, 0, 0, 0, 1, -1, 0, 0, 0, 1, -1, 9, 9, 9, 9]),
                         [0, 2, 2, 2, 324])
        self.assertEqual(minima(4, scaled(4, [9, 1, 5, 1])), [0, 1, 1, 25, 81])
        self.assertEqual(minima(5, [1, -1, 0, 0, 0, 0, 1, -1, 0, 0, 0, 0, 1, -1, 0,
                                    0, 0, 0, 1, -1, 3, 3, 3, 3, 3]),
                         [0, 2, 2, 2, 2, 45])

    def test_equal_minima(self):
        for n in range(1, 6):
            self.assertEqual(minima(n, identity(n)), [0] + [1] * n)
            self.assertEqual(minima(n, scaled(n, [-3] * n)), [0] + [9] * n)
        self.assertEqual(minima(2, [3, 4, 4, -3]), [0, 25, 25])
        self.assertEqual(minima(3, [1, 1, 0, 1, 0, 1, 0, 1, 1]), [0, 2, 2, 2])
        self.assertEqual(minima(4, scaled(4, [2, 3, 2, 3])), [0, 4, 4, 9, 9])
        self.assertEqual(minima(5, scaled(5, [3, 2, 3, 1, 3])), [0, 1, 4, 9, 9, 9])

    def test_long_rows_nearly_along_one_another(self):
        self.assertEqual(minima(2, [1000, 999, 999, 998]), [0, 1, 1])
        self.assertEqual(minima(2, [999, 998, 1000, 999]), [0, 1, 1])
        self.assertEqual(minima(2, [-1000, 999, 999, -998]), [0, 1, 1])
        self.assertEqual(minima(2, [987, 610, 610, 377]), [0, 1, 1])
        self.assertEqual(minima(2, [1000, 997, 997, 994]), [0, 5, 17])
        self.assertEqual(minima(2, [1000, -999, 1000, -1000]), [0, 1, 1000000])
        self.assertEqual(minima(3, [30, 29, 30, 29, 28, 29, 30, 29, 29]), [0, 1, 1, 1])

    def test_two_rows_otherwise(self):
        asked = 0
        for seed in range(300):
            numbers = mixed_numbers(4, seed, (1000, 40, 5)[seed % 3])
            if det_by_orders(2, numbers) != 0:
                told = [square_of(row) for row in two_short(numbers)]
                self.assertEqual(minima(2, numbers), [0] + told)
                asked += 1
        self.assertGreater(asked, 250)

    def test_all_points_of_a_box(self):
        asked = 0
        for n, width, seeds in ((1, 9, 9), (2, 9, 30), (3, 6, 8), (4, 2, 6)):
            for seed in range(seeds):
                numbers = mixed_numbers(n * n, seed, 4 if n < 4 else 1)
                longest = max(square_of(row) for row in rows_of(n, numbers))
                if det_by_orders(n, numbers) != 0 and longest <= width * width:
                    points = points_in_box(n, numbers, width)
                    self.assertEqual(minima(n, numbers), [0] + squares_of_free(points))
                    asked += 1
        self.assertGreater(asked, 30)

    def asked_of_all_points(self, n, numbers):
        """1 if the answer is held against all points up to the longest row, else 0."""
        whole = abs(det_by_orders(n, numbers))
        longest = max(square_of(row) for row in rows_of(n, numbers))
        # Rows of a determinant of 0, or of too many points, are passed over.
        if whole == 0 or longest ** n > 400000 * whole * whole:
            return 0
        points = points_up_to(n, numbers, longest)
        self.assertEqual(minima(n, numbers), [0] + squares_of_free(points))
        return 1

    def test_all_points_up_to_the_longest_row(self):
        for n in BOUNDS:
            asked = 0
            for seed in range(120):
                bound = (BOUNDS[n], 1, 2, 3)[seed % 4]
                asked += self.asked_of_all_points(n, mixed_numbers(n * n, seed + 500, bound))
            self.assertGreater(asked, 50)

    def test_long_and_short_rows_in_one(self):
        for n in range(2, 6):
            asked = sum(self.asked_of_all_points(n, b) for b in rows_of_all_lengths(n))
            self.assertGreater(asked, 15)

    def test_other_rows_of_the_same_grid(self):
        for n, numbers, others in pairs_of_one_grid():
            self.assertEqual(minima(n, others), minima(n, numbers))

    def test_one_after_another_from_the_least(self):
        for n, bound in BOUNDS.items():
            for seed in range(40):
                numbers = mixed_numbers(n * n, seed, bound)
                if det_by_orders(n, numbers) != 0:
                    told = minima(n, numbers)
                    self.assertEqual(told[0], 0)
                    self.assertEqual(len(told), n + 1)
                    self.assertEqual(told[1:], sorted(told[1:]))
                    self.assertEqual(told[1], short(n, numbers)[0])

    def test_bounds_are_answered(self):
        for n, bound in BOUNDS.items():
            told = [0] + [bound ** 2] * n
            self.assertEqual(minima(n, scaled(n, [bound] * n)), told)
            self.assertEqual(minima(n, scaled(n, [-bound] * n)), told)
        self.assertEqual(minima(1, [-1000]), [0, 1000000])
        self.assertEqual(minima(2, [1000, 1000, 1000, -1000]), [0, 2000000, 2000000])
        self.assertEqual(minima(2, [0, 1000, 1, 1000]), [0, 1, 1000000])
        self.assertEqual(minima(3, [30 * x for x in SIGNS[3]]), [0, 2700, 2700, 2700])
        self.assertEqual(minima(4, [9 * x for x in SIGNS[4]]), [0, 324, 324, 324, 324])
        self.assertEqual(minima(5, [3 * x for x in SIGNS[5]]), [0, 45, 45, 45, 45, 45])

    def test_rows_at_their_bounds(self):
        for n, bound in BOUNDS.items():
            for b in rows_at_bounds(n):
                if det_by_orders(n, b) == 0:
                    self.assertEqual(minima(n, b), [-3])
                else:
                    points = points_up_to(n, b, n * bound * bound)
                    self.assertEqual(minima(n, b), [0] + squares_of_free(points))


class MinimaRefusalsAndManners(RowsCallTests, unittest.TestCase):

    call = staticmethod(minima)


if __name__ == "__main__":
    unittest.main()
