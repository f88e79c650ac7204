"""Rows of whole numbers: determinants, grids, short rows and short points."""


def split_rows(n, numbers):
    """The n rows of n numbers that stand one behind another in numbers."""
    return [numbers[place * n:(place + 1) * n] for place in range(n)]


def product(row, other):
    """The sum of the two rows' products, place by place."""
    return sum([x * y for x, y in zip(row, other)])


def square(row):
    """The row's product with itself."""
    return product(row, row)


def plus(row, times, other):
    """The row and times the other one, put together."""
    return [x + times * y for x, y in zip(row, other)]


def without(rows, place, column):
    """The rows but the one at place, each without its number at column."""
    kept = rows[:place] + rows[place + 1:]
    return [row[:column] + row[column + 1:] for row in kept]


def cofactor(rows, place, column):
    """What the number at place and column is multiplied by in the determinant."""
    part = determinant(without(rows, place, column))
    return part if (place + column) % 2 == 0 else -part


def cofactors(rows, place):
    """The cofactors of the row at place, column by column."""
    return [cofactor(rows, place, column) for column in range(len(rows))]


def determinant(rows):
    """The determinant of m rows of m numbers, by the numbers of the first row."""
    if len(rows) == 0:
        return 1
    return product(rows[0], cofactors(rows, 0))


def lies_within(inner, outer):
    """True if each row of inner is a point of the grid of outer."""
    whole = determinant(outer)
    for place in range(len(outer)):
        # The determinant with a point in the place of an outer row is that row's
        # multiple in the point times whole: a point of the grid leaves no rest.
        factors = cofactors(outer, place)
        for point in inner:
            if product(point, factors) % whole != 0:
                return False
    return True


def ladder_row(rows, table, row):
    """L(k, j) for j from 0 to k, of the row as row k behind the k rows of the table."""
    numbers = []
    for place in range(len(rows) + 1):
        own = place == len(rows)
        others = numbers if own else table[place]
        number = square(row) if own else product(row, rows[place])
        # Each step widens the determinant by one row and column; it leaves no rest.
        for lower in range(place):
            widened = number * leading(table, lower + 1) - numbers[lower] * others[lower]
            number = widened // leading(table, lower)
        numbers.append(number)
    return numbers


def ladder(rows):
    """The table of L(k, j), row k by row k."""
    table = []
    for place in range(len(rows)):
        table.append(ladder_row(rows[:place], table, rows[place]))
    return table


def leading(table, size):
    """D(size)."""
    return 1 if size == 0 else table[size - 1][size - 1]


def nearest(number, part):
    """The whole number nearest to number / part, where part is above 0; of two the greater."""
    return (2 * number + part) // (2 * part)


def lessened(rows, place):
    """The row at place, less the multiples of the rows ahead of it that reducing takes."""
    ahead = rows[:place]
    table = ladder(ahead)
    row = rows[place]
    for lower in range(place - 1, -1, -1):
        numbers = ladder_row(ahead, table, row)
        row = plus(row, -nearest(numbers[lower], table[lower][lower]), rows[lower])
    return row


def in_order(table, place):
    """True if the inequality of reduced rows holds for the row at place."""
    slant = table[place][place - 1]
    space = leading(table, place + 1) * leading(table, place - 1)
    return 3 * leading(table, place) ** 2 <= 4 * (space + slant ** 2)


def is_reduced(rows):
    """True if the rows are reduced."""
    table = ladder(rows)
    for place in range(1, len(rows)):
        if not in_order(table, place):
            return False
        for lower in range(place):
            if abs(2 * table[place][lower]) > leading(table, lower + 1):
                return False
    return True


def reduced(rows):
    """Other rows of the same grid, reduced as the document tells."""
    done = list(rows)
    place = 1
    while place < len(done):
        done[place] = lessened(done, place)
        if in_order(ladder(done[:place + 1]), place):
            place += 1
        else:
            upper = done[place - 1]
            done[place - 1] = done[place]
            done[place] = upper
            place = max(place - 1, 1)
    return done


def root(number):
    """The greatest whole number whose square is at most number, which isn't below 0."""
    guess = 1
    while guess * guess < number:
        guess *= 2
    while guess * guess > number:
        guess = (guess + number // guess) // 2
    return guess


def moved_along(rows, table, place, point, bound):
    """The point with those multiples of the row at place that the bound lets be.

    Of the square only what the rows ahead of that one can't undo is counted.
    """
    numbers = ladder_row(rows[:place + 1], table, point)
    size = leading(table, place + 1)
    room = root(leading(table, place) * (bound * size - numbers[place + 1]))
    least = -((room + numbers[place]) // size)
    most = (room - numbers[place]) // size
    return [plus(point, times, rows[place]) for times in range(least, most + 1)]


def points_about(rows, table, start, bound):
    """The start and each point of the rows' grid put together, if the square is up to bound.

    The start's part at right angles to all rows must be within the bound.
    """
    points = [start]
    for place in range(len(rows) - 1, -1, -1):
        moved = []
        for point in points:
            moved.extend(moved_along(rows, table, place, point, bound))
        points = moved
    return points


def short_points(rows):
    """Points of the grid, one of each two that differ by sign, but not 0.

    All of the least square are among them, and all that the minima need.
    """
    done = reduced(rows)
    table = ladder(done)
    points = []
    bound = 0
    for place in range(len(done)):
        # A point of the rows up to here that is longer than each of them counts
        # for no minimum: without it as many points are free of one another.
        bound = max(bound, square(done[place]))
        times = 1
        while times * times * leading(table, place + 1) <= bound * leading(table, place):
            start = [times * x for x in done[place]]
            points.extend(points_about(done[:place], table, start, bound))
            times += 1
    return points


def free_squares(points):
    """The squares of as many points as are free of one another, the shortest taken first."""
    chosen = []
    table = []
    squares = []
    for point in sorted(points, key=square):
        numbers = ladder_row(chosen, table, point)
        # The last number is 0 where the point isn't free of those chosen.
        if numbers[len(chosen)] != 0:
            chosen.append(point)
            table.append(numbers)
            squares.append(square(point))
    return squares


def upright(point):
    """The point, or it times -1: that of the two whose first number other than 0 is above 0."""
    return point if point > [0 for x in point] else [-x for x in point]


def first_shortest(points):
    """Of the points whose square is least, the first."""
    return min(points, key=lambda point: [square(point)] + point)


def points_up_to(rows, bound):
    """All points of the grid whose squares are up to bound."""
    done = reduced(rows)
    return points_about(done, ladder(done), [0 for row in done], bound)


def gaps(rows, target):
    """Points of the grid less the target: all of the least square are among them."""
    done = reduced(rows)
    start = [-x for x in target]
    # What's left of the start once rows are taken from it is such a point itself,
    # and of reduced rows a short one: few others are as short.
    bound = square(lessened(done + [start], len(done)))
    return points_about(done, ladder(done), start, bound)
