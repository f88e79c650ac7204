"""The calls: what each of them refuses, and what it answers."""

from gridsteps.matrix import (
    determinant, first_shortest, free_squares, gaps, is_reduced, lies_within, plus,
    points_up_to, reduced, short_points, split_rows, square, upright,
)

LARGEST_SIZE = 5
LARGEST_NUMBER = 1000
LARGEST_SQUARE = 400
WRONG_SIZE = -2
WRONG_ROWS = -3


def refusal(n, lists):
    """The number that refuses the size n or a number in the lists; else 0."""
    if n < 1 or n > LARGEST_SIZE:
        return WRONG_SIZE
    for numbers in lists:
        for number in numbers:
            if abs(number) > LARGEST_NUMBER:
                return WRONG_ROWS
    return 0


def grid_refusal(n, grids):
    """As refusal, but rows whose determinant is 0 are refused, too."""
    refused = refusal(n, grids)
    if refused != 0:
        return refused
    for numbers in grids:
        if determinant(split_rows(n, numbers)) == 0:
            return WRONG_ROWS
    return 0


def det(n, b):
    """0 and the determinant of the rows b, or a refusal."""
    refused = refusal(n, [b])
    if refused != 0:
        return [refused]
    return [0, determinant(split_rows(n, b))]


def same(n, a, b):
    """1 if the rows a and b have the same grid, 0 if not, or a refusal."""
    refused = grid_refusal(n, [a, b])
    if refused != 0:
        return [refused]
    first = split_rows(n, a)
    second = split_rows(n, b)
    alike = lies_within(first, second) and lies_within(second, first)
    return [1 if alike else 0]


def short(n, b):
    """The least square of a point but 0, and the first such point, or a refusal."""
    refused = grid_refusal(n, [b])
    if refused != 0:
        return [refused]
    points = [upright(point) for point in short_points(split_rows(n, b))]
    point = first_shortest(points)
    return [square(point)] + point


def minima(n, b):
    """0 and the n minima of the grid, or a refusal."""
    refused = grid_refusal(n, [b])
    if refused != 0:
        return [refused]
    return [0] + free_squares(short_points(split_rows(n, b)))


def reduce(n, b):
    """0 and the rows b reduced, or a refusal."""
    refused = grid_refusal(n, [b])
    if refused != 0:
        return [refused]
    answer = [0]
    for row in reduced(split_rows(n, b)):
        answer.extend(row)
    return answer


def test(n, b):
    """1 if the rows b are reduced, 0 if not, or a refusal."""
    refused = grid_refusal(n, [b])
    if refused != 0:
        return [refused]
    return [1 if is_reduced(split_rows(n, b)) else 0]


def near(n, b, t):
    """The least square of a point less t, and the first such point, or a refusal."""
    refused = refusal(n, [t]) or grid_refusal(n, [b])
    if refused != 0:
        return [refused]
    gap = first_shortest(gaps(split_rows(n, b), t))
    return [square(gap)] + plus(gap, 1, t)


def count(n, r, b):
    """0 and how many points have squares up to r, or a refusal."""
    if r < 0 or r > LARGEST_SQUARE:
        return [WRONG_SIZE]
    refused = grid_refusal(n, [b])
    if refused != 0:
        return [refused]
    return [0, len(points_up_to(split_rows(n, b), r))]
