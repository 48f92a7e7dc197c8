"""Rows of whole numbers, and the sums of fractions of them that are whole."""

from math import gcd, lcm


def divided(row):
    """A row by the greatest number that divides it, so that its first number that is not 0 is above 0."""
    common = 0
    for number in row:
        common = gcd(common, number)
    leading = [number for number in row if number != 0]
    if leading and leading[0] < 0:
        common = -common
    return tuple([number // common for number in row]) if leading else tuple(row)


def cleared(row, pivot, place):
    """A row with as much of another one taken off that it is 0 at one place, where that one is above 0."""
    return divided([pivot[place] * number - row[place] * other for number, other in zip(row, pivot)])


def reduced(rows, width):
    """The rows of the reduced form that have the same sums of fractions as rows of so many numbers."""
    left = sorted({divided(row) for row in rows})
    done = []
    for place in range(width):
        pivots = [row for row in left if row[place] != 0]
        if pivots:
            pivot = pivots[0]
            left = sorted({cleared(row, pivot, place) for row in left})
            done = [cleared(row, pivot, place) for row in done] + [pivot]
    return tuple(done)


def leading_place(row):
    """The first place at which a row is not 0."""
    return [number != 0 for number in row].index(True)


def vanishing(rows, width):
    """The reduced form of all rows of so many numbers that, weighed by each of these rows, come to 0."""
    pivots = {leading_place(row): row for row in reduced(rows, width)}
    common = 1
    for place, row in pivots.items():
        common = lcm(common, row[place])
    free = [place for place in range(width) if place not in pivots]
    return reduced([free_row(pivots, place, width, common) for place in free], width)


def free_row(pivots, free, width, common):
    """The row that is `common` at one free place, 0 at the others, and comes to 0 with each pivot's row."""
    numbers = [0] * width
    numbers[free] = common
    for place, row in pivots.items():
        numbers[place] = -row[free] * common // row[place]
    return numbers
