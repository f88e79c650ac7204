"""Promise 8: count."""

import unittest

from gridsteps.desk import count, short
from tests.helper import (
    BOUNDS, HIGHEST, LOWEST, SIGNS, WHOLE, WRONG_SIZES, GuardedList, RowsCallTests,
    det_by_orders, even_rows, identity, mixed_numbers, nearly_along, pairs_of_one_grid,
    points_in_box, points_up_to, rows_at_bounds, rows_of_all_lengths, scaled, square_of,
)

# Up to which r the document asks count, for each n.
LARGEST = {1: 400, 2: 400, 3: 400, 4: 60, 5: 12}
WRONG_SQUARES = (-1, 401, -2, 402, -400, 1000, LOWEST, HIGHEST)


def whole_counts(n, most):
    """For each r up to most how many rows of n whole numbers have the square r."""
    counts = [1] + [0] * most
    for _ in range(n):
        further = [0] * (most + 1)
        for number in range(-most, most + 1):
            for r in range(most + 1 - number * number):
                further[r + number * number] += counts[r]
        counts = further
    return counts


class CountAnswers(unittest.TestCase):

    def told(self, n, r, b, answer):
        self.assertEqual(count(n, r, b), [0, answer])

    def test_r_of_0(self):
        for n, bound in BOUNDS.items():
            self.told(n, 0, identity(n), 1)
            self.told(n, 0, WHOLE[n], 1)
            self.told(n, 0, scaled(n, [-bound] * n), 1)
            for seed in range(20):
                numbers = mixed_numbers(n * n, seed, bound)
                if det_by_orders(n, numbers) != 0:
                    self.told(n, 0, numbers, 1)

    def test_one_row(self):
        for row in ([3], [-3]):
            for r, answer in ((0, 1), (1, 1), (8, 1), (9, 3), (10, 3), (35, 3), (36, 5),
                              (37, 5), (399, 13), (400, 13)):
                self.told(1, r, row, answer)
        self.told(1, 399, [20], 1)
        self.told(1, 400, [20], 3)
        self.told(1, 400, [-21], 1)
        self.told(1, 400, [1000], 1)
        self.told(1, 400, [1], 41)
        self.told(1, 399, [-1], 39)

    def test_a_point_just_at_r_and_just_beyond(self):
        self.told(2, 24, [3, 4, 4, -3], 1)
        self.told(2, 25, [3, 4, 4, -3], 5)
        self.told(2, 26, [3, 4, 4, -3], 5)
        self.told(2, 49, [3, 4, 4, -3], 5)
        self.told(2, 50, [3, 4, 4, -3], 9)
        for n in range(1, 6):
            for factor in (1, 2, 3):
                r = factor * factor
                self.told(n, r, scaled(n, [factor] * n), 1 + 2 * n)
                self.told(n, r - 1, scaled(n, [factor] * n), 1)
        for n, bound in BOUNDS.items():
            for seed in range(40):
                numbers = mixed_numbers(n * n, seed + 30, bound)
                if det_by_orders(n, numbers) == 0:
                    continue
                least = short(n, numbers)[0]
                if least <= LARGEST[n]:
                    self.told(n, least - 1, numbers, 1)
                    told = len(points_up_to(n, numbers, least))
                    self.assertGreater(told, 2)
                    self.told(n, least, numbers, told)

    def test_grids_of_whole_numbers(self):
        for n, most in LARGEST.items():
            counts = whole_counts(n, most)
            for r in sorted({0, 1, 2, 3, 4, 5, 9, 11, 12, most // 2, most - 1, most}):
                for b in (identity(n), [-x for x in identity(n)], WHOLE[n]):
                    self.told(n, r, b, sum(counts[:r + 1]))
        self.told(1, 400, WHOLE[1], 41)
        self.told(2, 400, WHOLE[2], 1257)
        self.told(3, 400, WHOLE[3], 33401)
        self.told(4, 60, WHOLE[4], 18065)
        self.told(5, 12, WHOLE[5], 2863)

    def test_grids_of_even_sums(self):
        # The rows of whole numbers whose square is even.
        for n in range(2, 6):
            counts = whole_counts(n, LARGEST[n])
            for r in sorted({0, 1, 2, 3, 4, 11, 12, LARGEST[n] - 1, LARGEST[n]}):
                self.told(n, r, even_rows(n), sum(counts[:r + 1:2]))

    def test_four_and_five_rows_counted_by_hand(self):
        self.told(4, 4, SIGNS[4], 9)
        # (1, 1, 1, 1) and its like with signs, and the axes by 2, in one grid.
        centred = scaled(4, [2, 2, 2, 0])[:12] + [1, 1, 1, 1]
        self.told(4, 3, centred, 1)
        self.told(4, 4, centred, 1 + 16 + 8)
        self.told(5, 3, scaled(5, [2, 2, 2, 2, 0])[:20] + [1] * 5, 1)
        self.told(5, 4, scaled(5, [2, 2, 2, 2, 0])[:20] + [1] * 5, 1 + 10)
        self.told(5, 5, scaled(5, [2, 2, 2, 2, 0])[:20] + [1] * 5, 1 + 10 + 32)
        self.told(5, 12, scaled(5, [3] * 5), 11)
        self.told(5, 12, scaled(5, [-2, 3, 3, 3, 3]), 1 + 2 + 8)

    def test_grids_without_a_short_point(self):
        self.told(2, 400, scaled(2, [21, -1000]), 1)
        self.told(2, 400, scaled(2, [20, -1000]), 3)
        self.told(2, 400, [1000, 0, 0, 1], 41)
        self.told(3, 400, scaled(3, [21, 30, 22]), 1)
        self.told(3, 400, scaled(3, [20, 20, -20]), 7)
        self.told(3, 399, scaled(3, [20, 20, -20]), 1)
        self.told(4, 60, scaled(4, [8, 9, -8, 9]), 1)
        self.told(4, 60, scaled(4, [8, 9, 7, 9]), 3)

    def test_long_rows_nearly_along_one_another(self):
        for b in ([1000, 999, 999, 998], [999, 998, 1000, 999], [987, 610, 610, 377],
                  [-1000, 999, 999, -998]):
            self.assertEqual(abs(det_by_orders(2, b)), 1)
            self.told(2, 1, b, 5)
            self.told(2, 2, b, 9)
            self.told(2, 400, b, 1257)
        self.told(2, 400, [1000, -999, 1000, -1000], 41)
        for seed in range(60):
            b = nearly_along(2, seed, 1 + seed % 9)
            if det_by_orders(2, b) != 0:
                for r in (1, 99, 400):
                    self.told(2, r, b, len(points_up_to(2, b, r)))

    def test_all_points_about_0(self):
        for n, bound in BOUNDS.items():
            asked = {}
            for seed in range(80):
                numbers = mixed_numbers(n * n, seed + 900, (bound, 1, 2, 3)[seed % 4])
                if det_by_orders(n, numbers) == 0:
                    continue
                for r in (seed % (LARGEST[n] + 1), LARGEST[n] * (seed % 8) // 7):
                    told = len(points_up_to(n, numbers, r))
                    self.told(n, r, numbers, told)
                    asked[told] = True
            self.assertGreater(len(asked), 9)

    def test_all_points_of_a_box(self):
        asked = 0
        for n, width, seeds in ((1, 20, 20), (2, 14, 20), (3, 6, 8), (4, 2, 3)):
            for seed in range(seeds):
                numbers = mixed_numbers(n * n, seed, 4 if n < 4 else 1)
                if det_by_orders(n, numbers) == 0:
                    continue
                squares = [square_of(point) for point in points_in_box(n, numbers, width)]
                # Beyond the box lie points of greater squares alone.
                for r in (0, 1, width, width * width - 1, width * width,
                          (width + 1) * (width + 1) - 1):
                    if r <= 400:
                        self.told(n, r, numbers, len([x for x in squares if x <= r]))
                        asked += 1
        self.assertGreater(asked, 100)

    def test_rows_at_their_bounds(self):
        for n in BOUNDS:
            for b in rows_at_bounds(n):
                for r in (LARGEST[n], LARGEST[n] - 1, 9):
                    if det_by_orders(n, b) == 0:
                        self.assertEqual(count(n, r, b), [-3])
                    else:
                        self.told(n, r, b, len(points_up_to(n, b, r)))

    def test_long_and_short_rows_in_one(self):
        for n in range(2, 6):
            asked = 0
            for b in rows_of_all_lengths(n):
                if det_by_orders(n, b) != 0:
                    self.told(n, LARGEST[n], b, len(points_up_to(n, b, LARGEST[n])))
                    asked += 1
            self.assertGreater(asked, 15)

    def test_other_rows_of_the_same_grid(self):
        for n, numbers, others in pairs_of_one_grid():
            r = min(LARGEST[n], 30)
            self.assertEqual(count(n, r, others), count(n, r, numbers))

    def test_always_an_odd_number(self):
        # 0 by itself, and each other point with its like on the other side.
        for n, bound in BOUNDS.items():
            for seed in range(30):
                numbers = mixed_numbers(n * n, seed, bound)
                if det_by_orders(n, numbers) != 0:
                    told = [count(n, r, numbers)[1] for r in range(13)]
                    self.assertEqual(told[0], 1)
                    self.assertEqual(told, sorted(told))
                    self.assertEqual({x % 2 for x in told}, {1})


class CountRefusalsAndManners(RowsCallTests, unittest.TestCase):

    @staticmethod
    def call(n, b):
        return count(n, 12, b)

    def test_size_out_of_bounds_with_each_r(self):
        for n in WRONG_SIZES:
            for r in (0, 12, 400) + WRONG_SQUARES:
                self.assertEqual(count(n, r, []), [-2])

    def test_r_out_of_bounds(self):
        for n in range(1, 6):
            for r in WRONG_SQUARES:
                self.assertEqual(count(n, r, identity(n)), [-2])

    def test_r_out_of_bounds_with_rows_that_are_refused(self):
        for n in range(1, 6):
            for r in WRONG_SQUARES:
                for b in ([0] * (n * n), [1001] * (n * n), [LOWEST] * (n * n),
                          identity(n)[:-1] + [1001], identity(n)[:-1] + [0]):
                    self.assertEqual(count(n, r, b), [-2])

    def test_rows_that_are_refused_with_r_at_its_bounds(self):
        for n in range(1, 6):
            for r in (0, 400):
                for b in ([0] * (n * n), [1001] * (n * n), identity(n)[:-1] + [-1001],
                          identity(n)[:-1] + [0]):
                    self.assertEqual(count(n, r, b), [-3])

    def test_the_rows_stay_as_they_were_for_each_r(self):
        for n, bound in BOUNDS.items():
            for r in (-1, 0, LARGEST[n], 401):
                for b in (mixed_numbers(n * n, 4, bound), [0] * (n * n)):
                    guarded = GuardedList(b)
                    count(n, r, guarded)
                    self.assertEqual(list(guarded), b)

    def test_the_same_rows_with_one_r_and_another(self):
        for n, bound in BOUNDS.items():
            b = WHOLE[n]
            told = [count(n, r, b) for r in (0, LARGEST[n], 1, 401)]
            self.assertEqual([count(n, r, b) for r in (0, LARGEST[n], 1, 401)], told)
            self.assertEqual(told[::3], [[0, 1], [-2]])


if __name__ == "__main__":
    unittest.main()
