"""Rows of whole numbers: determinants, and which points a grid holds."""


def split_rows(n, numbers):
    """The n rows of n numbers that stand one behind another in numbers."""
    return [numbers[place * n:(place + 1) * n] for place in range(n)]


def product(row, other):
    """The sum of the two rows' products, place by place."""
    return sum([x * y for x, y in zip(row, other)])


def without(rows, place, column):
    """The rows but the one at place, each without its number at column."""
    kept = rows[:place] + rows[place + 1:]
    return [row[:column] + row[column + 1:] for row in kept]


def cofactor(rows, place, column):
    """What the number at place and column is multiplied by in the determinant."""
    part = determinant(without(rows, place, column))
    return part if (place + column) % 2 == 0 else -part


def cofactors(rows, place):
    """The cofactors of the row at place, column by column."""
    return [cofactor(rows, place, column) for column in range(len(rows))]


def determinant(rows):
    """The determinant of m rows of m numbers, by the numbers of the first row."""
    if len(rows) == 0:
        return 1
    return product(rows[0], cofactors(rows, 0))


def lies_within(inner, outer):
    """True if each row of inner is a point of the grid of outer."""
    whole = determinant(outer)
    for place in range(len(outer)):
        # The determinant with a point in the place of an outer row is that row's
        # multiple in the point times whole: a point of the grid leaves no rest.
        factors = cofactors(outer, place)
        for point in inner:
            if product(point, factors) % whole != 0:
                return False
    return True
