"""What several tests need: other ways to the same numbers, and guarded lists."""

from fractions import Fraction
from itertools import permutations, product
from math import floor, isqrt

LOWEST = -2147483648
HIGHEST = 2147483647
WRONG_SIZES = (0, 6, 7, 25, -1, -2, -5, LOWEST, LOWEST + 1, HIGHEST - 1, HIGHEST)
WRONG_NUMBERS = (-1001, 1001, LOWEST, HIGHEST)

# Of which numbers the document asks short points, for each n.
BOUNDS = {1: 1000, 2: 1000, 3: 30, 4: 9, 5: 3}
WIDEST = {1: 1000, 2: 1000, 3: 1000, 4: 1000, 5: 1000}

# Rows of 1 and -1 whose determinant is as great as it can be.
SIGNS = {
    1: [1],
    2: [1, 1, 1, -1],
    3: [1, 1, 1, 1, -1, 1, 1, 1, -1],
    4: [1, 1, 1, 1, 1, -1, 1, -1, 1, 1, -1, -1, 1, -1, -1, 1],
    5: [-1, 1, 1, 1, 1,
        1, -1, 1, 1, 1,
        1, 1, -1, 1, 1,
        1, 1, 1, -1, 1,
        1, 1, 1, 1, -1],
}

# Rows, long ones but for n of 1, whose grid is all rows of whole numbers.
WHOLE = {
    1: [-1],
    2: [1000, 999, 999, 998],
    3: [-27, 27, -17, 23, -30, 25, 23, -28, 22],
    4: [-7, -9, -7, 6, 8, 7, 6, -8, 9, 6, 5, -9, -8, -9, -7, 7],
    5: [3, -1, 3, 3, 1, -2, 3, -2, -3, 1, 2, -2, 3, 3, -1,
        -2, -3, -2, -2, -3, -3, -1, -2, -3, -3],
}


class GuardedList(list):
    """A list that fails the test at any change, also one that's taken back."""

    def refuse(self, *args, **kwargs):
        raise AssertionError("a list that was handed in is changed")

    __setitem__ = __delitem__ = __iadd__ = __imul__ = refuse
    append = extend = insert = remove = pop = clear = sort = reverse = refuse


class RowsCallTests:
    """What holds of each call that is handed n and rows b and refuses a determinant of 0."""

    bounds = BOUNDS

    def test_size_out_of_bounds(self):
        for n in WRONG_SIZES:
            self.assertEqual(self.call(n, []), [-2])

    def test_determinant_of_zero(self):
        for n in range(1, 6):
            self.assertEqual(self.call(n, [0] * (n * n)), [-3])
            flat = joined(rows_of(n, identity(n))[:-1] + [[0] * n])
            self.assertEqual(self.call(n, flat), [-3])
            self.assertEqual(self.call(n, flat[n:] + flat[:n]), [-3])
        self.assertEqual(self.call(2, [1, 2, 2, 4]), [-3])
        self.assertEqual(self.call(2, [1000, 1000, 1000, 1000]), [-3])
        self.assertEqual(self.call(3, [1, 2, 3, 4, 5, 6, 7, 8, 9]), [-3])
        self.assertEqual(self.call(5, [1000] * 25), [-3])

    def test_number_out_of_bounds_at_each_place(self):
        for n in range(1, 6):
            for place in range(n * n):
                for number in WRONG_NUMBERS:
                    numbers = identity(n)
                    numbers[place] = number
                    self.assertEqual(self.call(n, numbers), [-3])

    def test_the_list_stays_as_it_was(self):
        for n, bound in self.bounds.items():
            for numbers in (mixed_numbers(n * n, 4, bound), mixed_numbers(n * n, 6, 1),
                            identity(n), [0] * (n * n), [1001] * (n * n)):
                guarded = GuardedList(numbers)
                self.call(n, guarded)
                self.assertEqual(list(guarded), numbers)

    def test_the_same_call_twice(self):
        for n, bound in self.bounds.items():
            calls = [(n, mixed_numbers(n * n, 5, bound)), (n, identity(n)),
                     (n, [0] * (n * n)), (0, [])]
            told = [self.call(size, rows) for size, rows in calls]
            kept = [list(answer) for answer in told]
            for answer in told:
                # What was given back is the caller's own: no later call sees it.
                answer.append(5)
            self.assertEqual([self.call(size, rows) for size, rows in calls], kept)
            self.assertEqual(kept[2:], [[-3], [-2]])
            self.assertNotIn([-3], kept[:2])


def sign_of(order):
    """1 if the order has an even number of pairs turned round, else -1."""
    turned = 0
    for later in range(len(order)):
        for earlier in range(later):
            if order[earlier] > order[later]:
                turned += 1
    return 1 if turned % 2 == 0 else -1


def det_by_orders(n, numbers):
    """The determinant as the sum over all orders of the columns."""
    total = 0
    for order in permutations(range(n)):
        part = sign_of(order)
        for place, column in enumerate(order):
            part *= numbers[place * n + column]
        total += part
    return total


def mixed_numbers(count, seed, bound):
    """Numbers from -bound to bound that look mixed, the same for each seed."""
    numbers = []
    state = seed * 7919 + 12345
    while len(numbers) < count:
        state = (state * 1103515245 + 12345) % 2147483648
        numbers.append((state >> 8) % (2 * bound + 1) - bound)
    return numbers


def rows_of(n, numbers):
    return [list(numbers[place * n:(place + 1) * n]) for place in range(n)]


def joined(rows):
    return [number for row in rows for number in row]


def identity(n):
    return [1 if place == column else 0 for place in range(n) for column in range(n)]


def scaled(n, factors):
    """The rows that have the factors from corner to corner and else 0."""
    return [factors[place] if place == column else 0
            for place in range(n) for column in range(n)]


def rows_at_bounds(n):
    """Rows whose numbers are at their bounds for n, of some of them a determinant of 0."""
    bound = BOUNDS[n]
    kinds = [scaled(n, [bound] * n), scaled(n, [-bound] * n),
             [bound * x for x in SIGNS[n]],
             scaled(n, [1] * n)[:n * n - n] + [bound] * n,
             scaled(n, [bound] * n)[:n * n - n] + [-1] * n]
    for seed in range(12):
        signs = mixed_numbers(n * n, seed, 1)
        kinds.append([bound if sign > 0 else -bound for sign in signs])
    return kinds


def rows_of_all_lengths(n):
    """Rows of grids that are short along some rows, and long along others."""
    kinds = []
    for seed in range(40):
        factors = [1 + x % BOUNDS[n] for x in mixed_numbers(n, seed, 1000)]
        rows = rows_of(n, mixed_numbers(n * n, seed, 1))
        kinds.append(joined([[times * x for x in row] for times, row in zip(factors, rows)]))
    return kinds


def even_rows(n):
    """Rows of the grid of all points whose numbers come to an even sum."""
    rows = [[1 if at == place else -1 if at == place + 1 else 0 for at in range(n)]
            for place in range(n - 1)]
    return joined(rows) + [0] * (n - 2) + [1, 1]


def told_otherwise(n, numbers, seed):
    """Other rows of the same grid: rows added to rows, turned round and moved."""
    rows = rows_of(n, numbers)
    times = mixed_numbers(n * n, seed, 2)
    for place in range(n):
        for other in range(n):
            if other != place:
                rows[place] = [x + times[place * n + other] * y
                               for x, y in zip(rows[place], rows[other])]
    rows[0] = [-x for x in rows[0]]
    return joined(rows[1:] + rows[:1])


def added_up(n, numbers):
    """Other rows of the same grid, not much longer: rows added and taken away."""
    rows = rows_of(n, numbers)
    for place in range(1, n):
        rows[place] = [x + y for x, y in zip(rows[place], rows[place - 1])]
    for place in range(2, n):
        rows[place] = [x - y for x, y in zip(rows[place], rows[place - 2])]
    return joined(reversed(rows))


def pairs_of_one_grid():
    """For n from 2 on, short rows and longer ones of the same grid."""
    pairs = []
    for n in range(2, 6):
        for seed in range(60):
            numbers = mixed_numbers(n * n, seed, 1)
            for others in (told_otherwise(n, numbers, seed + 1), added_up(n, numbers)):
                longest = max(abs(x) for x in others)
                if longest <= BOUNDS[n] and det_by_orders(n, numbers) != 0:
                    pairs.append((n, numbers, others))
    return pairs


def stair_rows(n, numbers):
    """The one set of rows of the same grid that stands for all others.

    Each row begins one column later than the one above, with a number above
    0, and the numbers over that one are from 0 to one less than it.
    """
    rows = rows_of(n, numbers)
    for place in range(n):
        while any(row[place] != 0 for row in rows[place + 1:]):
            low = min((at for at in range(place, n) if rows[at][place] != 0),
                      key=lambda at: abs(rows[at][place]))
            rows[place], rows[low] = rows[low], rows[place]
            for at in range(place + 1, n):
                times = rows[at][place] // rows[place][place]
                rows[at] = [x - times * y for x, y in zip(rows[at], rows[place])]
        if rows[place][place] < 0:
            rows[place] = [-x for x in rows[place]]
        for at in range(place):
            times = rows[at][place] // rows[place][place]
            rows[at] = [x - times * y for x, y in zip(rows[at], rows[place])]
    return rows


def square_of(point):
    return sum(x * x for x in point)


def points_up_to(n, numbers, bound, centre=None):
    """All points of the grid whose squares are up to bound, by the stair rows.

    Where a centre is told, of the points less it the squares are.
    """
    points = [[-x for x in centre or [0] * n]]
    for place, stair in enumerate(stair_rows(n, numbers)):
        further = []
        for point in points:
            room = isqrt(bound - square_of(point[:place]))
            least = -((room + point[place]) // stair[place])
            most = (room - point[place]) // stair[place]
            for times in range(least, most + 1):
                further.append([x + times * y for x, y in zip(point, stair)])
        points = further
    return [[x + y for x, y in zip(point, centre or [0] * n)] for point in points]


def points_in_box(n, numbers, width):
    """All points of the grid whose numbers are from -width to width.

    Each row of such numbers is tried, by the determinants with it in the place
    of one of the rows.
    """
    whole = det_by_orders(n, numbers)
    points = []
    for point in product(range(-width, width + 1), repeat=n):
        parts = [det_by_orders(n, numbers[:n * place] + list(point)
                               + numbers[n * (place + 1):])
                 for place in range(n)]
        if all(part % whole == 0 for part in parts):
            points.append(list(point))
    return points


def first_short(points):
    """The answer of short, if all points of the least square are among these."""
    told = []
    for point in points:
        ahead = [x for x in point if x != 0]
        if ahead and ahead[0] > 0:
            told.append([square_of(point)] + point)
    return sorted(told)[0]


def square_between(point, other):
    return sum((x - y) ** 2 for x, y in zip(point, other))


def first_near(points, target):
    """The answer of near, if all nearest points are among these."""
    return min([square_between(point, target)] + point for point in points)


def near_otherwise(n, numbers, target):
    """The answer of near, by all points that are no farther off than a near one."""
    rows = rows_of(n, reduced_by_fractions(n, numbers)[0])
    rests = rests_of(rows)
    left = list(target)
    for row, rest in reversed(list(zip(rows, rests))):
        times = round(product_of(left, rest) / square_of(rest))
        left = [x - times * y for x, y in zip(left, row)]
    return first_near(points_up_to(n, numbers, square_of(left), target), target)


def rest_of(point, kept):
    """What is left of the point when its part along the kept rows is taken away."""
    rest = [Fraction(x) for x in point]
    for column, row in kept:
        times = rest[column] / row[column]
        rest = [x - times * y for x, y in zip(rest, row)]
    return rest


def squares_of_free(points):
    """The squares of the shortest points that are free of one another."""
    squares = []
    kept = []
    for point in sorted(points, key=square_of):
        rest = rest_of(point, kept)
        if any(rest):
            column = [x != 0 for x in rest].index(True)
            kept.append((column, rest))
            squares.append(square_of(point))
    return squares


def product_of(row, other):
    return sum(x * y for x, y in zip(row, other))


def ladder_number(rows, high, low):
    """L(high, low), by the determinant that the document tells."""
    columns = list(range(low)) + [high]
    pairs = [[product_of(rows[a], rows[c]) for c in columns] for a in range(low + 1)]
    return det_by_orders(low + 1, joined(pairs))


def reduced_by_determinants(n, numbers):
    """1 if the rows are reduced, else 0, by the document's words in whole numbers."""
    rows = rows_of(n, numbers)
    heads = [1] + [ladder_number(rows, place, place) for place in range(n)]
    for high in range(1, n):
        for low in range(high):
            number = 2 * ladder_number(rows, high, low)
            if not -heads[low + 1] <= number <= heads[low + 1]:
                return 0
        last = ladder_number(rows, high, high - 1)
        if not 3 * heads[high] ** 2 <= 4 * (heads[high + 1] * heads[high - 1] + last ** 2):
            return 0
    return 1


def rests_of(rows):
    """Each row less its parts along the rows ahead of it."""
    rests = []
    for row in rows:
        rest = [Fraction(x) for x in row]
        for other in rests:
            times = product_of(row, other) / square_of(other)
            rest = [x - times * y for x, y in zip(rest, other)]
        rests.append(rest)
    return rests


def reduced_by_fractions(n, numbers):
    """The rows that reducing comes to, and at which k rows changed places."""
    rows = rows_of(n, numbers)
    changed = []
    place = 1
    while place < n:
        rests = rests_of(rows[:place])
        for low in range(place - 1, -1, -1):
            along = product_of(rows[place], rests[low]) / square_of(rests[low])
            times = floor(along + Fraction(1, 2))
            rows[place] = [x - times * y for x, y in zip(rows[place], rows[low])]
        rest = rests_of(rows[:place + 1])[place]
        along = product_of(rows[place], rests[place - 1]) / square_of(rests[place - 1])
        least = (Fraction(3, 4) - along ** 2) * square_of(rests[place - 1])
        if square_of(rest) >= least:
            place += 1
        else:
            changed.append(place)
            rows[place - 1:place + 1] = [rows[place], rows[place - 1]]
            place = max(place - 1, 1)
    return joined(rows), changed


def nearly_along(n, seed, spread):
    """Rows near 1000 or -1000 that lie nearly along one another."""
    signs = [1 if x >= 0 else -1 for x in mixed_numbers(n, seed, 1000)]
    less = mixed_numbers(n * n, seed + 1, spread)
    return [signs[at % n] * (1000 - spread + less[at]) for at in range(n * n)]


def two_short(numbers):
    """Two rows of the same grid of which none is made shorter by the other."""
    one, other = rows_of(2, numbers)
    while True:
        if square_of(one) > square_of(other):
            one, other = other, one
        along = sum(x * y for x, y in zip(one, other))
        times = round(Fraction(along, square_of(one)))
        if times == 0:
            return one, other
        other = [y - times * x for x, y in zip(one, other)]
