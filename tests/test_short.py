"""Promise 3: short."""

import unittest

from gridsteps.desk import short
from tests.helper import (
    BOUNDS, SIGNS, RowsCallTests, det_by_orders, even_rows, first_short, identity,
    mixed_numbers, pairs_of_one_grid, points_in_box, points_up_to, rows_at_bounds,
    rows_of, scaled, square_of, two_short,
)


class ShortAnswers(unittest.TestCase):

    def test_one_row(self):
        for number in (1, 7, 999, 1000):
            self.assertEqual(short(1, [number]), [number * number, number])
            self.assertEqual(short(1, [-number]), [number * number, number])

    def test_a_row_is_the_shortest_point(self):
        self.assertEqual(short(2, [3, 0, 0, 2]), [4, 0, 2])
        self.assertEqual(short(2, [0, -2, 3, 0]), [4, 0, 2])
        self.assertEqual(short(3, [9, 0, 0, 0, -2, 1, 1, 3, 8]), [5, 0, 2, -1])

    def test_no_row_is_a_shortest_point(self):
        self.assertEqual(short(2, [5, 3, 3, 2]), [1, 0, 1])
        self.assertEqual(short(2, [19, 191, 30, 204]), [290, 11, 13])
        self.assertEqual(short(2, [584, -559, 966, -661]), [156328, 382, -102])
        self.assertEqual(short(3, [4, -7, 8, 1, -1, -9, 3, -8, -4]), [13, 2, 0, 3])
        self.assertEqual(short(4, [-7, 8, -4, -7, -3, -9, 5, 8, 2, 6, 4, 9, 3, 7, -5, -9]),
                         [5, 0, 2, 0, 1])
        self.assertEqual(short(5, [3, -1, 1, 1, 3, 3, 2, 0, -1, -3, -1, 2, -2, -3, -3,
                                   3, -3, 2, -1, -1, 2, 3, 3, 2, 1]),
                         [10, 2, 1, -1, -2, 0])

    def test_the_first_of_several(self):
        for n in range(1, 6):
            last = [0] * (n - 1) + [1]
            self.assertEqual(short(n, identity(n)), [1] + last)
            self.assertEqual(short(n, [-x for x in identity(n)]), [1] + last)
        self.assertEqual(short(2, [3, 4, 4, -3]), [25, 3, 4])
        self.assertEqual(short(2, [-4, 3, -3, -4]), [25, 3, 4])
        # -1 is less than 1: the sign of the later numbers tells which is first.
        self.assertEqual(short(2, [1, 1, 1, -1]), [2, 1, -1])
        self.assertEqual(short(2, [1, 1, -1, 1]), [2, 1, -1])
        for n in range(2, 6):
            self.assertEqual(short(n, even_rows(n)), [2] + [0] * (n - 2) + [1, -1])
        self.assertEqual(short(4, SIGNS[4]), [4, 1, -1, -1, 1])
        self.assertEqual(short(4, [2, 0, 0, 0, 0, 2, 0, 0, 0, 0, 2, 0, 3, 1, 1, 1]),
                         [4, 0, 0, 0, 2])

    def test_the_first_is_no_multiple_by_one_of_the_last_row(self):
        # Of the rows, (1, 1, 1, 1, 1) has to be taken twice to come to (0, 0, 0, 0, 2).
        numbers = scaled(5, [2, 2, 2, 2, 0])[:20] + [1, 1, 1, 1, 1]
        self.assertEqual(short(5, numbers), [4, 0, 0, 0, 0, 2])

    def test_the_first_number_other_than_0_is_above_0(self):
        self.assertEqual(short(2, [-3, 1, 20, 30]), [10, 3, -1])
        self.assertEqual(short(2, [0, -3, -7, 1]), [9, 0, 3])
        self.assertEqual(short(3, [0, -2, 5, 20, 1, 0, 3, 30, 1]), [29, 0, 2, -5])
        self.assertEqual(short(3, [0, 0, -1, 9, 1, 1, 1, 9, 4]), [1, 0, 0, 1])
        self.assertEqual(short(4, [0, 0, -1, 1, 9, 1, 0, 0, 1, 9, 0, 0, 0, 0, 9, 9]),
                         [2, 0, 0, 1, -1])
        self.assertEqual(short(5, scaled(5, [3, -3, 3, -2, 3])), [4, 0, 0, 0, 2, 0])
        self.assertEqual(short(5, scaled(5, [3, -3, 3, 3, -2])), [4, 0, 0, 0, 0, 2])

    def test_long_rows_nearly_along_one_another(self):
        self.assertEqual(short(2, [1000, 999, 999, 998]), [1, 0, 1])
        self.assertEqual(short(2, [999, 998, 1000, 999]), [1, 0, 1])
        self.assertEqual(short(2, [-1000, 999, 999, -998]), [1, 0, 1])
        self.assertEqual(short(2, [987, 610, 610, 377]), [1, 0, 1])
        self.assertEqual(short(2, [1000, -999, 1000, -1000]), [1, 0, 1])
        self.assertEqual(short(2, [1000, 997, 997, 994]), [5, 1, -2])
        self.assertEqual(short(3, [30, 29, 30, 29, 28, 29, 30, 29, 29]), [1, 0, 0, 1])

    def test_two_rows_otherwise(self):
        asked = 0
        for seed in range(300):
            numbers = mixed_numbers(4, seed, (1000, 40, 5)[seed % 3])
            if det_by_orders(2, numbers) == 0:
                continue
            one, other = two_short(numbers)
            points = [[x * times + y * more for x, y in zip(one, other)]
                      for times in range(-2, 3) for more in range(-2, 3)]
            self.assertEqual(short(2, numbers), first_short(points))
            asked += 1
        self.assertGreater(asked, 250)

    def test_all_points_of_a_box(self):
        for n, width, seeds in ((1, 9, 9), (2, 9, 30), (3, 6, 8), (4, 2, 3)):
            for seed in range(seeds):
                numbers = mixed_numbers(n * n, seed, 4 if n < 4 else 1)
                shortest = min(square_of(row) for row in rows_of(n, numbers))
                if det_by_orders(n, numbers) != 0 and shortest <= width * width:
                    points = points_in_box(n, numbers, width)
                    self.assertEqual(short(n, numbers), first_short(points))

    def test_all_points_up_to_the_shortest_row(self):
        asked = {n: 0 for n in BOUNDS}
        for n in BOUNDS:
            for seed in range(120):
                # Small numbers bring many points of the same square.
                bound = (BOUNDS[n], 1, 2, 3)[seed % 4]
                numbers = mixed_numbers(n * n, seed + 500, bound)
                whole = abs(det_by_orders(n, numbers))
                if whole == 0:
                    continue
                shortest = min(square_of(row) for row in rows_of(n, numbers))
                if shortest ** n > 10 ** 7 * whole * whole:
                    continue
                points = points_up_to(n, numbers, shortest)
                self.assertEqual(short(n, numbers), first_short(points))
                asked[n] += 1
        self.assertGreater(min(asked.values()), 60)

    def test_other_rows_of_the_same_grid(self):
        for n, numbers, others in pairs_of_one_grid():
            self.assertEqual(short(n, others), short(n, numbers))

    def test_bounds_are_answered(self):
        for n, bound in BOUNDS.items():
            corner = [0] * (n - 1) + [bound]
            self.assertEqual(short(n, scaled(n, [bound] * n)), [bound ** 2] + corner)
            self.assertEqual(short(n, scaled(n, [-bound] * n)), [bound ** 2] + corner)
            tall = scaled(n, [1] * n)[:n * n - n] + [bound] * n
            self.assertEqual(short(n, tall)[0], 1 if n > 1 else bound ** 2)
        self.assertEqual(short(1, [1000]), [1000000, 1000])
        self.assertEqual(short(2, [1000, 1000, 1000, -1000]), [2000000, 1000, -1000])
        self.assertEqual(short(3, [30 * x for x in SIGNS[3]]), [2700, 30, -30, -30])
        self.assertEqual(short(4, [9 * x for x in SIGNS[4]]), [324, 9, -9, -9, 9])
        self.assertEqual(short(5, [3 * x for x in SIGNS[5]]), [45, 3, -3, -3, -3, -3])

    def test_rows_at_their_bounds(self):
        for n, bound in BOUNDS.items():
            for b in rows_at_bounds(n):
                if det_by_orders(n, b) == 0:
                    self.assertEqual(short(n, b), [-3])
                else:
                    points = points_up_to(n, b, n * bound * bound)
                    self.assertEqual(short(n, b), first_short(points))


class ShortRefusalsAndManners(RowsCallTests, unittest.TestCase):

    call = staticmethod(short)


if __name__ == "__main__":
    unittest.main()
