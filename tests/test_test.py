"""Promise 6: test."""

import unittest

# Not by its own name: what is called test.. in a test's file may be taken for a test.
from gridsteps import desk
from tests.helper import (
    BOUNDS, SIGNS, WIDEST, RowsCallTests, det_by_orders, identity, joined,
    ladder_number, mixed_numbers, nearly_along, reduced_by_determinants,
    reduced_by_fractions, rows_of, scaled,
)


class TestAnswers(unittest.TestCase):

    def told(self, n, numbers, answer):
        self.assertEqual(desk.test(n, numbers), [answer])

    def twice(self, numbers, high, low):
        """Of three rows 2 L(high, low), and D(low + 1)."""
        rows = rows_of(3, numbers)
        return 2 * ladder_number(rows, high, low), ladder_number(rows, low, low)

    def sides(self, n, numbers, place):
        """The two sides of the inequality for the row at place."""
        rows = rows_of(n, numbers)
        heads = [1] + [ladder_number(rows, at, at) for at in range(place + 1)]
        last = ladder_number(rows, place, place - 1)
        return 3 * heads[place] ** 2, 4 * (heads[place + 1] * heads[place - 1] + last ** 2)

    def test_one_row(self):
        for number in (1, -1, 7, -7, 999, -999, 1000, -1000):
            self.told(1, [number], 1)

    def test_rows_at_right_angles(self):
        for n in range(1, 6):
            self.told(n, identity(n), 1)
            self.told(n, scaled(n, [-7] * n), 1)
        self.told(5, scaled(5, [1, -2, 30, 400, -1000]), 1)
        self.told(2, [0, 3, 2, 0], 0)
        for n in range(2, 6):
            for place in range(n - 1):
                # Long ahead of short at one place alone.
                factors = [1] * (place + 1) + [2] * (n - place - 1)
                self.told(n, scaled(n, factors), 1)
                factors = [2] * (place + 1) + [1] * (n - place - 1)
                self.told(n, scaled(n, factors), 0)

    def test_two_rows(self):
        self.told(2, [3, 1, -1, 5], 1)
        self.told(2, [5, 1, 1, 6], 1)
        self.told(2, [5, 1, 6, 7], 0)
        self.told(2, [5, 1, -6, 6], 0)
        self.told(2, [1000, 999, 999, 998], 0)
        self.told(2, [1, 0, 0, -1], 1)

    def test_twice_the_first_just_at_its_bounds(self):
        # D(1) is 4, and 2 L(1, 0) is 4 and -4.
        self.told(2, [2, 0, 1, 2], 1)
        self.told(2, [2, 0, -1, 2], 1)
        # D(1) is 4, and 2 L(1, 0) is 8 and -8: L takes whole steps of 2 there.
        self.told(2, [2, 0, 2, 2], 0)
        self.told(2, [2, 0, -2, 2], 0)
        # D(1) is 5, and 2 L(1, 0) is 6 and -6, and 4 and -4.
        self.told(2, [2, 1, 0, 3], 0)
        self.told(2, [2, 1, 0, -3], 0)
        self.told(2, [2, 1, -1, 4], 1)
        self.told(2, [2, 1, 1, -4], 1)

    def test_each_just_at_its_bounds_and_one_beyond(self):
        # Of three rows: which L(k, j), and rows where 2 L(k, j) is D(j + 1) and one
        # more, -D(j + 1) and one less; all else is within its bounds in these.
        for high, low, at_most, beyond, at_least, below in (
                (1, 0, [2, -1, 3, 2, -3, 0, -3, -3, 3], [-3, 0, -2, -1, -3, -2, 2, 0, -2],
                 [1, -2, 3, -2, -2, -3, -3, 2, 2], [0, -1, -2, -2, 1, 1, -1, -2, 1]),
                (2, 0, [2, 3, -1, -2, 2, 2, 3, 1, 2], [-2, 3, 0, 3, 1, 2, 1, 3, -3],
                 [-1, -2, -1, -1, -2, 3, -3, 2, 2], [2, 2, -1, 3, -3, 1, -1, -3, -3]),
                (2, 1, [2, 1, 1, 2, -1, -1, 0, -3, 1], [0, 1, 0, 2, 0, -1, 3, 0, 3],
                 [1, -1, -1, 0, -2, 2, 2, 2, 0], [2, 1, 3, -1, -3, 2, 3, 0, -2])):
            for numbers, sign, more in ((at_most, 1, 0), (beyond, 1, 1),
                                        (at_least, -1, 0), (below, -1, 1)):
                number, head = self.twice(numbers, high, low)
                self.assertEqual(number, sign * (head + more))
                for other, ahead in ((1, 0), (2, 0), (2, 1)):
                    if (other, ahead) != (high, low):
                        number, head = self.twice(numbers, other, ahead)
                        self.assertLess(abs(number), head)
                for place in (1, 2):
                    less, great = self.sides(3, numbers, place)
                    self.assertLess(less, great)
                self.told(3, numbers, 1 - more)

    def test_too_great_at_a_row_that_is_not_the_one_ahead(self):
        self.told(3, [2, 0, 0, 0, 2, 0, 3, 0, 2], 0)
        self.told(3, [2, 0, 0, 0, 2, 0, -3, 0, 2], 0)
        self.told(3, [2, 0, 0, 0, 2, 0, 1, 0, 2], 1)
        for n in range(3, 6):
            for low in range(n - 2):
                rows = rows_of(n, scaled(n, [2] * n))
                rows[n - 1][low] = 1
                self.told(n, joined(rows), 1)
                for number in (2, 3, -2, -3, 1000):
                    rows[n - 1][low] = number
                    self.told(n, joined(rows), 0)

    def test_each_pair_of_rows_counts(self):
        for n in range(2, 6):
            for high in range(1, n):
                for low in range(high):
                    rows = rows_of(n, scaled(n, [2] * n))
                    for number, answer in ((1, 1), (-1, 1), (2, 0), (-2, 0)):
                        rows[high][low] = number
                        self.told(n, joined(rows), answer)

    def test_both_sides_of_the_inequality_equal(self):
        for n, numbers, place in (
                (3, [2, 2, 0, 2, -1, 1, 2, -2, -6], 1),
                (3, [2, 2, 2, -2, 1, 2, 0, 3, -3], 1),
                (3, [-1, 1, -1, 1, -3, -3, 3, 2, -1], 2),
                (3, [-3, -1, -1, 1, -3, 3, -1, 3, 2], 2),
                (4, [1, 0, 0, 0, 0, 2, 2, 0, 0, 2, -1, 1, 0, 2, -2, -6], 2)):
            less, great = self.sides(n, numbers, place)
            self.assertEqual(less, great)
            self.told(n, numbers, 1)

    def test_the_inequality_broken_by_little(self):
        # Of 3 D(k)^2 and a number of fours, the first is greater by 3 or 4 at least.
        for n, numbers, place, more in (
                (3, [1, 1, 1, 1, -1, 0, 3, 3, -6], 1, 3),
                (4, [1, 0, 0, 0, 0, 1, 1, 1, 0, 1, -1, 0, 0, 3, 3, -6], 2, 3),
                (2, [1, 1, 1, 0], 1, 4),
                (2, [1, 1, 0, -1], 1, 4),
                (3, [1, 0, 0, 0, 1, 1, 0, 1, 0], 2, 4)):
            less, great = self.sides(n, numbers, place)
            self.assertEqual(less - great, more)
            self.told(n, numbers, 0)
        # 3 * 13 is 39, and 4 * 10 is 40, 4 * 9 is 36.
        self.told(2, [3, 2, -1, 3], 1)
        self.told(2, [3, 2, 0, 3], 0)

    def test_the_inequality_for_each_row(self):
        for n in range(2, 6):
            for place in range(1, n):
                rows = rows_of(n, scaled(n, [10] * n))
                # 4 * 87^2 is 30276, and 4 * 86^2 is 29584; 3 * 100^2 is 30000.
                for number, answer in ((87, 1), (-87, 1), (86, 0), (-86, 0)):
                    long = [[10 * x for x in row] for row in rows]
                    for at in range(place, n):
                        long[at][at] = number
                    self.told(n, joined(long), answer)

    def test_by_determinants(self):
        for n in range(1, 6):
            told = {0: 0, 1: 0}
            for seed in range(120):
                bound = (1, 2, 3, 9, 1000)[seed % 5]
                numbers = mixed_numbers(n * n, seed + 300, bound)
                if det_by_orders(n, numbers) == 0:
                    continue
                rows = reduced_by_fractions(n, numbers)[0]
                # One step beside reduced rows, where a bound is often just met or passed.
                beside = list(rows)
                beside[seed % (n * n)] += 1 if seed % 2 == 0 else -1
                for asked in (numbers, rows, beside):
                    if max(abs(x) for x in asked) <= 1000 and det_by_orders(n, asked) != 0:
                        answer = reduced_by_determinants(n, asked)
                        self.told(n, asked, answer)
                        told[answer] += 1
            self.assertGreater(told[1], 100)
            self.assertEqual(told[0] > 100, n > 1)

    def test_what_reduce_answers(self):
        for n in range(1, 6):
            asked = 0
            for seed in range(60):
                bound = (9, 100, 1000)[seed % 3]
                for numbers in (mixed_numbers(n * n, seed, bound),
                                nearly_along(n, seed, 1 + seed % 4)):
                    answer = desk.reduce(n, numbers)
                    if answer != [-3] and max(abs(x) for x in answer) <= 1000:
                        self.assertEqual(answer[0], 0)
                        self.told(n, answer[1:], 1)
                        asked += 1
            self.assertGreater(asked, 70)

    def test_bounds_are_answered(self):
        for n in range(1, 6):
            self.told(n, scaled(n, [1000] * n), 1)
            self.told(n, scaled(n, [-1000] * n), 1)
            self.told(n, [1000 * x for x in SIGNS[n]], 1)
            if n > 1:
                self.told(n, [1000] * n + scaled(n, [-1000] * n)[n:], 0)
                self.told(n, nearly_along(n, 5, 9), 0)
        self.told(2, [1000, 0, 500, 1000], 1)
        self.told(2, [1000, 0, -500, 1000], 1)
        self.told(2, [1000, 0, 501, 1000], 0)
        self.told(2, [1000, 0, -501, 1000], 0)
        self.told(2, [1000, 0, 0, 867], 1)
        self.told(2, [1000, 0, 0, 866], 0)
        self.told(2, [1000, 0, 500, -708], 1)
        self.told(2, [1000, 0, 500, -707], 0)
        self.told(5, scaled(5, [1000, 867, 751, 651, 564]), 1)
        self.told(5, scaled(5, [1000, 867, 751, 651, 563]), 0)


class TestRefusalsAndManners(RowsCallTests, unittest.TestCase):

    call = staticmethod(desk.test)
    bounds = WIDEST

    def test_rows_beyond_those_that_short_is_asked_of(self):
        for n, bound in BOUNDS.items():
            numbers = scaled(n, [min(bound + 1, 1000)] * n)
            self.assertEqual(desk.test(n, numbers), [1])


if __name__ == "__main__":
    unittest.main()
