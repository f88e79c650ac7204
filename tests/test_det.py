"""Promise 1: det."""

import unittest

from gridsteps.desk import det
from tests.helper import (
    SIGNS, WRONG_NUMBERS, WRONG_SIZES, GuardedList, det_by_orders, identity,
    mixed_numbers, scaled,
)


class DetAnswers(unittest.TestCase):

    def test_one_row(self):
        for number in (7, 1, 0, -1, -7, 1000, -1000, 999, -999):
            self.assertEqual(det(1, [number]), [0, number])

    def test_two_rows(self):
        self.assertEqual(det(2, [1, 2, 3, 4]), [0, -2])
        self.assertEqual(det(2, [3, 4, 1, 2]), [0, 2])
        self.assertEqual(det(2, [0, 1, 1, 0]), [0, -1])
        self.assertEqual(det(2, [0, 5, -3, 2]), [0, 15])

    def test_three_rows(self):
        self.assertEqual(det(3, [2, 0, 1, 1, 3, 2, 1, 1, 1]), [0, 0])
        self.assertEqual(det(3, [2, -3, 1, 2, 0, -1, 1, 4, 5]), [0, 49])
        self.assertEqual(det(3, [2, 0, -1, 2, -3, 1, 1, 4, 5]), [0, -49])

    def test_first_row_of_zeros_but_one_number(self):
        # The signs go by turns along the first row, + first.
        for n in range(1, 6):
            for column in range(n):
                order = [column] + [at for at in range(n) if at != column]
                numbers = [1 if order[place] == at else 0
                           for place in range(n) for at in range(n)]
                self.assertEqual(det(n, numbers), [0, 1 if column % 2 == 0 else -1])

    def test_identity_and_corner_to_corner(self):
        for n in range(1, 6):
            self.assertEqual(det(n, identity(n)), [0, 1])
        self.assertEqual(det(4, scaled(4, [2, -3, 5, 7])), [0, -210])
        self.assertEqual(det(5, scaled(5, [2, 3, 5, 7, 11])), [0, 2310])

    def test_zero_is_answered_as_any_other(self):
        for n in range(1, 6):
            self.assertEqual(det(n, [0] * (n * n)), [0, 0])
        self.assertEqual(det(2, [1, 2, 2, 4]), [0, 0])
        self.assertEqual(det(3, [1, 2, 3, 4, 5, 6, 7, 8, 9]), [0, 0])
        self.assertEqual(det(4, list(range(16))), [0, 0])
        self.assertEqual(det(5, [1000] * 25), [0, 0])

    def test_bounds_are_answered(self):
        self.assertEqual(det(2, [1000, 1000, -1000, 1000]), [0, 2000000])
        self.assertEqual(det(2, [-1000, 1000, 1000, 1000]), [0, -2000000])
        self.assertEqual(det(4, [1000 * x for x in SIGNS[4]]), [0, 16 * 1000 ** 4])
        self.assertEqual(det(5, [1000 * x for x in SIGNS[5]]), [0, 48 * 1000 ** 5])
        self.assertEqual(det(5, scaled(5, [1000] * 5)), [0, 1000 ** 5])
        self.assertEqual(det(5, scaled(5, [-1000] * 5)), [0, -1000 ** 5])

    def test_against_the_sum_over_orders(self):
        signs = {}
        for n in range(1, 6):
            for seed in range(30):
                for bound in (1, 9, 1000):
                    numbers = mixed_numbers(n * n, seed, bound)
                    told = det_by_orders(n, numbers)
                    self.assertEqual(det(n, numbers), [0, told])
                    signs[(n, (told > 0) - (told < 0))] = True
        # Above 0, below 0 and 0 have come up for each n.
        self.assertEqual(len(signs), 15)


class DetRefusals(unittest.TestCase):

    def test_size_out_of_bounds(self):
        for n in WRONG_SIZES:
            self.assertEqual(det(n, []), [-2])

    def test_number_out_of_bounds_at_each_place(self):
        for n in range(1, 6):
            for place in range(n * n):
                for number in WRONG_NUMBERS:
                    numbers = identity(n)
                    numbers[place] = number
                    self.assertEqual(det(n, numbers), [-3])

    def test_number_out_of_bounds_with_a_determinant_of_zero(self):
        self.assertEqual(det(2, [1001, 1001, 1001, 1001]), [-3])
        self.assertEqual(det(2, [0, 0, 0, -1001]), [-3])


class DetManners(unittest.TestCase):

    def test_the_list_stays_as_it_was(self):
        for n in range(1, 6):
            for numbers in (mixed_numbers(n * n, 4, 1000), [1001] * (n * n)):
                guarded = GuardedList(numbers)
                det(n, guarded)
                self.assertEqual(list(guarded), numbers)

    def test_the_same_call_twice(self):
        for n in range(1, 6):
            numbers = mixed_numbers(n * n, 5, 1000)
            first = det(n, numbers)
            told = list(first)
            # What was given back is the caller's own: no later call sees it.
            first.append(5)
            det(n, identity(n))
            det(0, [])
            self.assertEqual(det(n, numbers), told)
        self.assertEqual(det(0, []), [-2])
        self.assertEqual(det(1, [1001]), [-3])
        self.assertEqual(det(0, []), [-2])
        self.assertEqual(det(1, [1001]), [-3])


if __name__ == "__main__":
    unittest.main()
