"""Promise 7: near."""

import unittest

from gridsteps.desk import near
from tests.helper import (
    BOUNDS, WHOLE, WRONG_NUMBERS, WRONG_SIZES, GuardedList, RowsCallTests,
    det_by_orders, even_rows, first_near, identity, mixed_numbers, near_otherwise,
    nearly_along, pairs_of_one_grid, points_in_box, points_up_to, rows_at_bounds,
    rows_of, rows_of_all_lengths, scaled, square_between, stair_rows,
)


def corners(n):
    """Rows of numbers at 1000 and -1000."""
    return ([1000] * n, [-1000] * n, [1000 if at % 2 == 0 else -1000 for at in range(n)],
            [0] * (n - 1) + [1000], [-1000] + [0] * (n - 1))


def point_of(rows, times):
    return [sum(c * row[at] for c, row in zip(times, rows)) for at in range(len(rows))]


class NearAnswers(unittest.TestCase):

    def told(self, n, b, t, answer):
        self.assertEqual(near(n, b, t), answer)

    def otherwise(self, n, b, t):
        """Holds the answer against all points about t that are no farther off."""
        answer = near(n, b, t)
        self.assertEqual(answer, near_otherwise(n, b, t))
        return answer

    def test_one_row(self):
        for row in ([7], [-7]):
            self.told(1, row, [10], [9, 7])
            self.told(1, row, [11], [9, 14])
            self.told(1, row, [-10], [9, -7])
            self.told(1, row, [-11], [9, -14])
            self.told(1, row, [3], [9, 0])
            self.told(1, row, [-4], [9, -7])
            self.told(1, row, [1000], [1, 1001])
            self.told(1, row, [-1000], [1, -1001])

    def test_one_row_and_two_nearest_points(self):
        for row in ([4], [-4]):
            self.told(1, row, [2], [4, 0])
            self.told(1, row, [-2], [4, -4])
            self.told(1, row, [998], [4, 996])
            self.told(1, row, [-998], [4, -1000])
        for row in ([1000], [-1000]):
            self.told(1, row, [500], [250000, 0])
            self.told(1, row, [501], [249001, 1000])
            self.told(1, row, [-500], [250000, -1000])
            self.told(1, row, [-499], [249001, 0])

    def test_a_point_of_the_grid(self):
        for n, bound in BOUNDS.items():
            for seed in range(20):
                numbers = mixed_numbers(n * n, seed, (bound, 1, 3)[seed % 3])
                if det_by_orders(n, numbers) == 0:
                    continue
                self.told(n, numbers, [0] * n, [0] * (n + 1))
                for row in rows_of(n, numbers):
                    self.told(n, numbers, row, [0] + row)
                point = point_of(rows_of(n, numbers), mixed_numbers(n, seed, 9))
                if max(abs(x) for x in point) <= 1000:
                    self.told(n, numbers, point, [0] + point)

    def test_beside_a_point_of_the_grid(self):
        self.told(2, [3, 4, 4, -3], [4, 4], [1, 3, 4])
        self.told(2, [3, 4, 4, -3], [1, 1], [2, 0, 0])
        self.told(2, [10, 0, 0, 10], [996, -994], [32, 1000, -990])
        self.told(3, scaled(3, [5, 7, 30]), [998, -999, 16], [204, 1000, -1001, 30])
        self.told(2, [5, 3, 3, 2], [-777, 1000], [0, -777, 1000])

    def test_where_rounding_by_the_rows_does_not_come_to_it(self):
        for n, b, t, answer in (
                (2, [84, 690, 151, 191], [-970, 831], [36829, -805, 733]),
                (3, [5, 18, 28, 14, 2, -6, -21, -14, 5], [-216, 343, -189],
                 [123, -211, 336, -182]),
                (4, [5, 8, 0, 3, -6, -3, -7, 4, 7, 7, -2, -7, -2, -2, -1, -7],
                 [-51, -527, -416, 328], [28, -50, -530, -413, 325]),
                (5, [0, -1, 3, -2, 3, 0, -2, 1, 1, 2, 0, 2, -1, 0, 3, 2, 1, 2, -3, 1,
                     3, 3, -2, 0, 3],
                 [673, 657, -699, 189, -234], [1, 673, 657, -700, 189, -234])):
            self.told(n, b, t, answer)
            points = points_up_to(n, b, answer[0], t)
            self.assertEqual(first_near(points, t), answer)
            self.assertIn(answer[1:], points)

    def test_the_first_of_several(self):
        self.told(2, [2, 0, 0, 2], [1, 1], [2, 0, 0])
        self.told(2, [2, 0, 0, 2], [-1, -1], [2, -2, -2])
        self.told(2, [2, 0, 0, 2], [-1, 999], [2, -2, 998])
        self.told(2, [3, 4, 4, -3], [7, 1], [0, 7, 1])
        for n, bound in BOUNDS.items():
            even = min(bound, 30) // 2 * 2
            half = even // 2
            self.told(n, scaled(n, [even] * n), [half] * n, [n * half * half] + [0] * n)
            self.told(n, scaled(n, [-even] * n), [-half] * n,
                      [n * half * half] + [-even] * n)
        # All points one step off are nearest: the one that's less in the first number.
        for n in range(2, 6):
            for t in ([1] + [0] * (n - 1), [0] * (n - 1) + [-1], [1000] * (n - 1) + [1],
                      [-1000] * (n - 1) + [999], [998, 1] + [-4] * (n - 2)):
                if sum(t) % 2 == 1:
                    self.told(n, even_rows(n), t, [1, t[0] - 1] + t[1:])
            self.told(n, even_rows(n), [2] * n, [0] + [2] * n)

    def test_the_first_of_several_whose_first_number_is_the_same(self):
        self.told(2, [1, 0, 0, 2], [5, 1], [1, 5, 0])
        self.told(2, [1, 0, 0, 2], [5, -1], [1, 5, -2])
        self.told(2, [0, -2, 1, 0], [-5, 999], [1, -5, 998])
        self.told(2, [1, 0, 0, -1000], [1000, 500], [250000, 1000, 0])
        self.told(2, [1, 0, 0, -1000], [-1000, -500], [250000, -1000, -1000])
        for n in range(2, 6):
            for place in range(1, n):
                factors = [1] * n
                factors[place] = 2
                t = mixed_numbers(n, place, 1000)
                t[place] = 2 * (t[place] // 4) + 1
                told = t[:place] + [t[place] - 1] + t[place + 1:]
                self.told(n, scaled(n, factors), t, [1] + told)

    def test_four_points_as_near(self):
        # (0, 0), (1, 3), (3, -1) and (4, 2) lie about (2, 1), all with the square 5.
        self.told(2, [1, 3, 3, -1], [2, 1], [5, 0, 0])
        self.told(2, [1, 3, 3, -1], [-1, 2], [5, -3, 1])
        self.told(2, [1, 3, 3, -1], [-2, -1], [5, -4, -2])

    def test_far_off_with_small_rows(self):
        for n in range(1, 6):
            for t in corners(n):
                self.told(n, identity(n), t, [0] + t)
                self.told(n, WHOLE[n], t, [0] + t)
                # 999 is the multiple of 3 next to 1000.
                less = [x // 1000 * 999 for x in t]
                self.told(n, scaled(n, [3] * n), t, [square_between(less, t)] + less)
            for seed in range(25):
                numbers = mixed_numbers(n * n, seed, 1)
                if det_by_orders(n, numbers) != 0:
                    for t in corners(n) + (mixed_numbers(n, seed, 1000),):
                        self.otherwise(n, numbers, t)

    def test_whole_rows_told_by_long_rows(self):
        for n in range(1, 6):
            for seed in range(20):
                t = mixed_numbers(n, seed, 1000)
                self.told(n, WHOLE[n], t, [0] + t)

    def test_rows_nearly_along_one_another(self):
        for b in ([1000, 999, 999, 998], [999, 998, 1000, 999], [-1000, 999, 999, -998],
                  [987, 610, 610, 377], [1000, 999, 1, 1]):
            self.assertEqual(abs(det_by_orders(2, b)), 1)
            for t in ([1000, -1000], [-1000, -1000], [0, 1], [123, -456], [500, 500]):
                self.told(2, b, t, [0] + t)
        # The determinant is 9, and the grid that of (1, -2) and (4, 1).
        self.told(2, [1000, 997, 997, 994], [0, 1], [1, 0, 0])
        self.told(2, [1000, 997, 997, 994], [2, -4], [0, 2, -4])
        self.told(2, [1000, 997, 997, 994], [-1000, 1000],
                  near_otherwise(2, [1, -2, 4, 1], [-1000, 1000]))
        for seed in range(80):
            b = nearly_along(2, seed, 1 + seed % 9)
            if det_by_orders(2, b) != 0:
                self.otherwise(2, b, mixed_numbers(2, seed, 1000))

    def test_rows_at_their_bounds(self):
        for n in BOUNDS:
            for place, b in enumerate(rows_at_bounds(n)):
                if det_by_orders(n, b) == 0:
                    self.assertEqual(near(n, b, [1000] * n), [-3])
                else:
                    for t in corners(n) + (mixed_numbers(n, place, 1000),):
                        self.otherwise(n, b, t)

    def test_all_points_about_it(self):
        for n, bound in BOUNDS.items():
            asked = 0
            for seed in range(80):
                numbers = mixed_numbers(n * n, seed + 700, (bound, 1, 2, 3)[seed % 4])
                t = mixed_numbers(n, seed, (1000, 10)[seed % 2])
                if det_by_orders(n, numbers) != 0:
                    answer = self.otherwise(n, numbers, t)
                    self.assertEqual(len(answer), n + 1)
                    asked += 1
            self.assertGreater(asked, 50)

    def test_all_points_of_a_box(self):
        asked = 0
        for n, width, seeds in ((1, 30, 20), (2, 14, 30), (3, 6, 12), (4, 3, 2)):
            for seed in range(seeds):
                numbers = mixed_numbers(n * n, seed, 4 if n < 4 else 1)
                t = mixed_numbers(n, seed + 9, width // 2)
                if det_by_orders(n, numbers) == 0:
                    continue
                told = first_near(points_in_box(n, numbers, width), t)
                room = width - max(abs(x) for x in t)
                if told[0] <= room * room:
                    self.told(n, numbers, t, told)
                    asked += 1
        self.assertGreater(asked, 40)

    def test_long_and_short_rows_in_one(self):
        for n in range(2, 6):
            asked = 0
            for seed, b in enumerate(rows_of_all_lengths(n)):
                if det_by_orders(n, b) != 0:
                    self.otherwise(n, b, mixed_numbers(n, seed, 1000))
                    asked += 1
            self.assertGreater(asked, 15)

    def test_other_rows_of_the_same_grid(self):
        for n, numbers, others in pairs_of_one_grid():
            t = mixed_numbers(n, len(str(numbers)), 1000)
            self.assertEqual(near(n, others, t), near(n, numbers, t))

    def test_a_point_farther_on(self):
        # With a point of the grid added to t, so it is to what's answered.
        for n, bound in BOUNDS.items():
            for seed in range(30):
                numbers = mixed_numbers(n * n, seed + 60, bound)
                t = mixed_numbers(n, seed, 400 if n > 2 else 9)
                for row in rows_of(n, numbers):
                    there = [x + y for x, y in zip(t, row)]
                    if det_by_orders(n, numbers) != 0 and max(abs(x) for x in there) <= 1000:
                        answer = near(n, numbers, t)
                        told = [x + y for x, y in zip(answer[1:], row)]
                        self.told(n, numbers, there, answer[:1] + told)

    def test_what_is_answered_is_a_point_at_that_square(self):
        for n, bound in BOUNDS.items():
            for seed in range(40):
                numbers = mixed_numbers(n * n, seed + 20, bound)
                t = mixed_numbers(n, seed + 1, 1000)
                if det_by_orders(n, numbers) == 0:
                    continue
                answer = near(n, numbers, t)
                self.assertEqual(answer[0], square_between(answer[1:], t))
                stairs = stair_rows(n, numbers)
                rest = answer[1:]
                for place, stair in enumerate(stairs):
                    self.assertEqual(rest[place] % stair[place], 0)
                    times = rest[place] // stair[place]
                    rest = [x - times * y for x, y in zip(rest, stair)]
                self.assertEqual(rest, [0] * n)


class NearRefusalsAndManners(RowsCallTests, unittest.TestCase):

    @staticmethod
    def call(n, b):
        return near(n, b, [3] * n if 1 <= n <= 5 else [])

    def test_size_out_of_bounds_of_t(self):
        for n in WRONG_SIZES:
            self.assertEqual(near(n, [], []), [-2])

    def test_number_of_t_out_of_bounds_at_each_place(self):
        for n in range(1, 6):
            for place in range(n):
                for number in WRONG_NUMBERS:
                    t = [0] * n
                    t[place] = number
                    self.assertEqual(near(n, identity(n), t), [-3])
                    self.assertEqual(near(n, [0] * (n * n), t), [-3])
                    self.assertEqual(near(n, [1001] * (n * n), t), [-3])
            self.assertEqual(near(n, identity(n), [1000] * n), [0] + [1000] * n)
            self.assertEqual(near(n, identity(n), [-1000] * n), [0] + [-1000] * n)

    def test_t_stays_as_it_was(self):
        for n, bound in BOUNDS.items():
            for b in (mixed_numbers(n * n, 4, bound), identity(n), [0] * (n * n)):
                for t in (mixed_numbers(n, 5, 1000), [0] * n, [1001] * n, [-1000] * n):
                    guarded = GuardedList(t)
                    rows = GuardedList(b)
                    near(n, rows, guarded)
                    self.assertEqual(list(guarded), t)
                    self.assertEqual(list(rows), b)

    def test_the_same_t_twice(self):
        for n, bound in BOUNDS.items():
            b = mixed_numbers(n * n, 5, bound)
            t = mixed_numbers(n, 6, 1000)
            told = near(n, b, t)
            near(n, identity(n), t)
            near(n, b, [0] * n)
            self.assertEqual(near(n, b, t), told)


if __name__ == "__main__":
    unittest.main()
