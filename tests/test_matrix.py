"""What the calls stand on, where no call that may be asked comes to it."""

import unittest
from math import isqrt

from gridsteps.matrix import free_squares, ladder, reduced, root, short_points
from tests.helper import (
    det_by_orders, joined, ladder_number, mixed_numbers, points_up_to, rows_of,
    square_of, squares_of_free,
)


class Root(unittest.TestCase):

    def test_small_numbers(self):
        for number in range(3000):
            self.assertEqual(root(number), isqrt(number))

    def test_about_great_squares(self):
        for base in (1000, 65535, 65536, 10 ** 9 + 7, 3 ** 60, 10 ** 40):
            self.assertEqual(root(base * base - 1), base - 1)
            self.assertEqual(root(base * base), base)
            self.assertEqual(root(base * base + 2 * base), base)


class Ladder(unittest.TestCase):

    def test_each_number_is_its_determinant(self):
        for n in range(1, 6):
            rows = rows_of(n, mixed_numbers(n * n, 4, 1000))
            table = ladder(rows)
            for low in range(n):
                for high in range(low, n):
                    self.assertEqual(table[high][low], ladder_number(rows, high, low))


class ShortPoints(unittest.TestCase):

    def test_the_last_row_taken_twice(self):
        # Reduced rows where the last row taken once doesn't bring the last minimum.
        rows = [[1, 16, -3, -12, -19], [-1, 8, -5, -7, 21], [-13, 13, 5, 2, 7],
                [9, -1, -11, 7, 2], [9, -7, 9, 0, 2]]
        self.assertEqual(reduced(rows), rows)
        told = squares_of_free(points_up_to(5, joined(rows), 547))
        self.assertEqual(told, [215, 256, 261, 426, 547])
        self.assertEqual(free_squares(short_points(rows)), told)

    def test_one_of_each_two_and_not_0(self):
        for n in range(1, 6):
            for seed in range(20):
                numbers = mixed_numbers(n * n, seed, 3)
                if det_by_orders(n, numbers) == 0:
                    continue
                points = short_points(rows_of(n, numbers))
                both = points + [[-x for x in point] for point in points]
                self.assertEqual(len({tuple(point) for point in both}), len(both))
                self.assertGreater(min(square_of(point) for point in points), 0)


if __name__ == "__main__":
    unittest.main()
