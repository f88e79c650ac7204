"""Promise 5: reduce."""

import unittest

from gridsteps.desk import reduce, same
from tests.helper import (
    SIGNS, WIDEST, RowsCallTests, det_by_orders, identity, ladder_number,
    mixed_numbers, nearly_along, reduced_by_determinants, reduced_by_fractions,
    rows_of, scaled, stair_rows, told_otherwise,
)


def many_rows(n):
    """Rows of many kinds whose determinant isn't 0."""
    kinds = [mixed_numbers(n * n, seed, bound)
             for seed in range(15) for bound in (1, 2, 9, 1000)]
    kinds += [nearly_along(n, seed, spread) for seed in range(15) for spread in (1, 2, 60)]
    return [numbers for numbers in kinds if det_by_orders(n, numbers) != 0]


class ReduceAnswers(unittest.TestCase):

    def told(self, n, numbers, answer):
        self.assertEqual(reduce(n, numbers), [0] + answer)

    def stays(self, n, numbers):
        self.assertEqual(reduced_by_determinants(n, numbers), 1)
        self.told(n, numbers, numbers)

    def otherwise(self, n, numbers):
        """Holds the answer against fractions; tells at which k rows changed places."""
        rows, changed = reduced_by_fractions(n, numbers)
        self.told(n, numbers, rows)
        return changed

    def test_one_row_stays(self):
        for number in (1, -1, 7, -7, 999, -999, 1000, -1000):
            self.stays(1, [number])

    def test_rows_that_are_reduced_stay(self):
        for n in range(1, 6):
            self.stays(n, identity(n))
            self.stays(n, scaled(n, [-3] * n))
        self.stays(2, [3, 1, -1, 5])
        self.stays(3, [2, -1, 2, 1, -2, -3, 2, 2, -3])
        self.stays(5, scaled(5, [1, -2, 30, 400, -1000]))

    def test_a_row_stays_ahead_of_one_a_little_shorter(self):
        # 3 * 17 is 51, 4 * 13 is 52; 3 * 34 is 102, 4 * 26 is 104.
        self.stays(2, [4, 1, 2, -3])
        self.stays(2, [-3, 5, -5, -1])
        self.stays(3, [0, 0, 1, 4, 1, 0, 2, -3, 0])

    def test_a_row_is_taken_from_the_next(self):
        self.told(2, [5, 1, 6, 7], [5, 1, 1, 6])
        self.told(2, [5, 1, -6, 6], [5, 1, -1, 7])
        self.told(2, [5, 1, 496, 109], [5, 1, -4, 9])
        self.told(3, [1, 0, 0, 0, 4, 0, 7, 6, 9], [1, 0, 0, 0, 4, 0, 0, -2, 9])

    def test_the_row_is_taken_as_it_is_at_that_step(self):
        # L(2, 1) / D(2) is -104 / 96; L(2, 0) / D(1) is -10 / 11 ahead of that
        # step, which takes a row, and -5 / 11 behind it, which takes none.
        self.told(3, [-1, -3, 1, 1, -1, 3, -4, 4, -2], [-1, -3, 1, 1, -1, 3, -3, 3, 1])
        self.told(3, [-2, -3, -1, 5, 0, 1, 2, -5, 4], [-2, -3, -1, 3, -3, 0, -1, -2, 4])

    def test_just_between_two_whole_numbers(self):
        # L(1, 0) / D(1) is 1/2, 3/2, 5/2 and -1/2, -3/2, -5/2: of two the greater.
        for number in (1, 3, 5, 7, 999, -1, -3, -5, -7, -999):
            self.told(2, [2, 0, number, 2], [2, 0, -1, 2])
            self.told(2, [-2, 0, number, 2], [-2, 0, 1, 2])
        self.told(2, [2, 4, 3, 1], [1, -3, 3, 1])
        self.told(2, [2, 4, -3, -1], [-3, -1, -1, 3])
        self.told(3, [2, 0, 0, 1, 4, 0, 0, 2, 9], [2, 0, 0, -1, 4, 0, -1, -2, 9])
        self.told(3, [2, 0, 0, 0, 4, 0, 1, 6, 5], [2, 0, 0, 0, 4, 0, -1, -2, 5])
        self.told(3, [2, 0, 0, 0, 4, 0, -1, -6, 5], [2, 0, 0, 0, 4, 0, -1, -2, 5])
        self.told(3, [2, 0, 0, 0, 4, 0, -3, -2, 5], [2, 0, 0, 0, 4, 0, -1, -2, 5])
        # One beside it on either side, where D(1) is 5.
        self.told(2, [2, 1, 0, 3], [2, 1, -2, 2])
        self.told(2, [2, 1, 1, 0], [1, 0, 0, 1])
        self.told(2, [2, 1, -1, 4], [2, 1, -1, 4])
        self.told(2, [2, 1, 0, -3], [2, 1, 2, -2])

    def test_rows_change_places(self):
        self.told(2, [0, 3, 2, 0], [2, 0, 0, 3])
        self.told(2, [1, 1, 1, 0], [0, -1, 1, 0])
        self.told(2, [1000, 0, 0, 1], [0, 1, 1000, 0])
        self.told(2, [2, 0, 0, 2], [2, 0, 0, 2])
        # At k = 1, then at k = 2, then at k = 1 again.
        self.told(3, [0, 0, 5, 0, 3, 0, 1, 0, 0], [1, 0, 0, 0, 3, 0, 0, 0, 5])
        self.told(4, scaled(4, [4, 3, 2, 1]), scaled(4, [4, 3, 2, 1])[12:]
                  + scaled(4, [4, 3, 2, 1])[8:12] + scaled(4, [4, 3, 2, 1])[4:8]
                  + scaled(4, [4, 3, 2, 1])[:4])

    def test_at_1_k_stays_1(self):
        self.assertEqual(self.otherwise(2, [1000, 999, 999, 998]), [1, 1])
        self.told(2, [1000, 999, 999, 998], [1, 0, 0, -1])
        self.assertEqual(self.otherwise(2, [987, 610, 610, 377]), [1] * 8)
        self.told(2, [987, 610, 610, 377], [-1, 0, 0, 1])
        self.told(3, [4, -7, 8, 1, -1, -9, 3, -8, -4], [-2, 0, -3, 5, -1, -3, 0, -7, 2])
        self.assertEqual(self.otherwise(3, [4, -7, 8, 1, -1, -9, 3, -8, -4]), [1, 2, 1])

    def test_both_sides_of_the_inequality_equal(self):
        # At k = 1: 3 * 8 is 4 * 6. At k = 2, where the row ahead is at right angles.
        self.stays(3, [2, 2, 0, 2, -1, 1, 2, -2, -6])
        self.stays(4, [1, 0, 0, 0, 0, 2, 2, 0, 0, 2, -1, 1, 0, 2, -2, -6])
        # At k = 2, where it isn't.
        rows = [-3, -1, -1, 1, -3, 3, -1, 3, 2]
        heads = [ladder_number(rows_of(3, rows), place, place) for place in range(3)]
        last = ladder_number(rows_of(3, rows), 2, 1)
        self.assertEqual(3 * heads[1] ** 2, 4 * (heads[2] * heads[0] + last ** 2))
        self.assertNotEqual(last, 0)
        self.stays(3, rows)
        # (2, 2, 2) and (-2, 1, 2): 3 * 12 is 4 * 9.
        self.stays(3, [2, 2, 2, -2, 1, 2, 0, 3, -3])

    def test_not_other_reduced_rows(self):
        # Reduced are these, too, but the steps don't come to them.
        for others in ([-1, 0, 0, 1], [0, 1, 1, 0], [1, 0, 0, 1]):
            self.assertEqual(reduced_by_determinants(2, others), 1)
            self.assertNotEqual(reduce(2, [1000, 999, 999, 998]), [0] + others)
        # 2 L(1, 0) is D(1): reduced, but the greater of 0 and 1 is taken.
        self.assertEqual(reduced_by_determinants(2, [2, 0, 1, 2]), 1)
        self.told(2, [2, 0, 1, 2], [2, 0, -1, 2])
        self.stays(2, [2, 0, -1, 2])

    def test_by_fractions(self):
        for n in range(1, 6):
            places = {}
            for numbers in many_rows(n):
                for place in self.otherwise(n, numbers):
                    places[place] = True
            self.assertEqual(sorted(places), list(range(1, n)))

    def test_reduced_rows_of_the_same_grid(self):
        for n in range(1, 6):
            for numbers in many_rows(n):
                answer = reduce(n, numbers)
                self.assertEqual(len(answer), 1 + n * n)
                self.assertEqual(answer[0], 0)
                self.assertEqual(reduced_by_determinants(n, answer[1:]), 1)
                self.assertEqual(stair_rows(n, answer[1:]), stair_rows(n, numbers))

    def test_what_is_answered_comes_to_the_same_grid(self):
        asked = 0
        for n in range(1, 6):
            for seed in range(10):
                numbers = mixed_numbers(n * n, seed + 40, 2)
                others = told_otherwise(n, numbers, seed)
                if det_by_orders(n, numbers) != 0 and max(abs(x) for x in others) <= 1000:
                    self.assertEqual(same(n, reduce(n, others)[1:], numbers), [1])
                    asked += 1
        self.assertGreater(asked, 30)

    def test_reducing_twice(self):
        for n in range(1, 6):
            for numbers in many_rows(n):
                answer = reduce(n, numbers)
                if max(abs(x) for x in answer[1:]) <= 1000:
                    # Reducing leaves no 2 L(k, j) at D(j + 1), so no row is taken again.
                    self.assertEqual(reduce(n, answer[1:]), answer)

    def test_bounds_are_answered(self):
        for n in range(1, 6):
            self.stays(n, scaled(n, [1000] * n))
            self.stays(n, scaled(n, [-1000] * n))
            self.stays(n, [1000 * x for x in SIGNS[n]])
            tall = [1000] * n + scaled(n, [-1000] * n)[n:]
            self.otherwise(n, tall)
            self.otherwise(n, tall[n:] + tall[:n])

    def test_bounds_at_every_place(self):
        for n in range(1, 6):
            for seed in range(20):
                signs = mixed_numbers(n * n, seed, 1)
                numbers = [1000 if sign > 0 else -1000 for sign in signs]
                if det_by_orders(n, numbers) == 0:
                    self.assertEqual(reduce(n, numbers), [-3])
                else:
                    self.otherwise(n, numbers)

    def test_a_number_that_comes_to_more_than_a_thousand(self):
        # The numbers of what is answered have no bounds of their own.
        self.told(2, [999, -350, 999, 1000], [999, -350, 0, 1350])


class ReduceRefusalsAndManners(RowsCallTests, unittest.TestCase):

    call = staticmethod(reduce)
    bounds = WIDEST


if __name__ == "__main__":
    unittest.main()
