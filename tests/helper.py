"""What several tests need: other ways to the same numbers, and guarded lists."""

from itertools import permutations

LOWEST = -2147483648
HIGHEST = 2147483647
WRONG_SIZES = (0, 6, 7, 25, -1, -2, -5, LOWEST, LOWEST + 1, HIGHEST - 1, HIGHEST)
WRONG_NUMBERS = (-1001, 1001, LOWEST, HIGHEST)


class GuardedList(list):
    """A list that fails the test at any change, also one that's taken back."""

    def refuse(self, *args, **kwargs):
        raise AssertionError("a list that was handed in is changed")

    __setitem__ = __delitem__ = __iadd__ = __imul__ = refuse
    append = extend = insert = remove = pop = clear = sort = reverse = refuse


def sign_of(order):
    """1 if the order has an even number of pairs turned round, else -1."""
    turned = 0
    for later in range(len(order)):
        for earlier in range(later):
            if order[earlier] > order[later]:
                turned += 1
    return 1 if turned % 2 == 0 else -1


def det_by_orders(n, numbers):
    """The determinant as the sum over all orders of the columns."""
    total = 0
    for order in permutations(range(n)):
        part = sign_of(order)
        for place, column in enumerate(order):
            part *= numbers[place * n + column]
        total += part
    return total


def mixed_numbers(count, seed, bound):
    """Numbers from -bound to bound that look mixed, the same for each seed."""
    numbers = []
    state = seed * 7919 + 12345
    while len(numbers) < count:
        state = (state * 1103515245 + 12345) % 2147483648
        numbers.append((state >> 8) % (2 * bound + 1) - bound)
    return numbers


def rows_of(n, numbers):
    return [list(numbers[place * n:(place + 1) * n]) for place in range(n)]


def joined(rows):
    return [number for row in rows for number in row]


def identity(n):
    return [1 if place == column else 0 for place in range(n) for column in range(n)]


def scaled(n, factors):
    """The rows that have the factors from corner to corner and else 0."""
    return [factors[place] if place == column else 0
            for place in range(n) for column in range(n)]


def stair_rows(n, numbers):
    """The one set of rows of the same grid that stands for all others.

    Each row begins one column later than the one above, with a number above
    0, and the numbers over that one are from 0 to one less than it.
    """
    rows = rows_of(n, numbers)
    for place in range(n):
        while any(row[place] != 0 for row in rows[place + 1:]):
            low = min((at for at in range(place, n) if rows[at][place] != 0),
                      key=lambda at: abs(rows[at][place]))
            rows[place], rows[low] = rows[low], rows[place]
            for at in range(place + 1, n):
                times = rows[at][place] // rows[place][place]
                rows[at] = [x - times * y for x, y in zip(rows[at], rows[place])]
        if rows[place][place] < 0:
            rows[place] = [-x for x in rows[place]]
        for at in range(place):
            times = rows[at][place] // rows[place][place]
            rows[at] = [x - times * y for x, y in zip(rows[at], rows[place])]
    return rows
