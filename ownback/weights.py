"""Weights of states that show whether a rate is reached."""

from math import gcd


def weighed(matrix, top, bottom):
    """Whether the rate top/bottom is reached, and weights that show it; matrix: by state, by state how many letters.

    top, less bottom times the matrix, is solved for all ones, without fractions (Bareiss): each number that comes is
    the determinant of a part, so each division comes out even. While the first parts have determinants above 0, the
    weights that solve them are none below 0; the first part that has none above 0 shows that the rate is reached.
    """
    many = len(matrix)
    rows = [
        [(top if place == at else 0) - bottom * letters for place, letters in enumerate(row)] + [1]
        for at, row in enumerate(matrix)
    ]
    before = 1
    for at in range(many):
        pivot = rows[at][0]
        if pivot <= 0:
            return True, reduced([-row[0] for row in rows[:at]] + [before] + [0] * (many - at - 1))
        rows = [row[1:] if place == at else solved(row, rows[at], before) for place, row in enumerate(rows)]
        before = pivot
    return False, reduced([row[0] for row in rows])


def solved(row, lead, before):
    """A row without its first column, which the leading one takes away."""
    pivot, first = lead[0], row[0]
    return [(pivot * number - first * other) // before for number, other in zip(row[1:], lead[1:])]


def reduced(row):
    """A row of integers, not all noughts, without their common divisor."""
    divisor = 0
    for number in row:
        divisor = gcd(divisor, number)
    return [number // divisor for number in row]


def greatest_reached(matrix, tops, bottom):
    """The greatest of these ascending tops with which the rate is reached, as it is with the first one."""
    low, high = 0, len(tops)
    while high - low > 1:
        middle = (low + high) // 2
        if weighed(matrix, tops[middle], bottom)[0]:
            low = middle
        else:
            high = middle
    return tops[low]


def most_letters(matrix):
    """How many letters lead on from a state at most: no rate above this is reached."""
    return max([sum(row) for row in matrix])


def times(one, other):
    columns = list(zip(*other))
    return [[sum([left * right for left, right in zip(row, column)]) for column in columns] for row in one]


def in_rows(matrix, length):
    """By state, by state how many rows of so many letters, one or more, lead from the one to the other."""
    rows = matrix
    for _ in range(length - 1):
        rows = times(rows, matrix)
    return rows
