"""What is made with upright columns: upright itself, and the least squares by it."""

from bitmatrix.double import divide, root, size_of
from bitmatrix.refusals import Degenerate
from bitmatrix.tables import less_scaled, sum_of_products, zero_rows
from bitmatrix.triangles import solved_above


def length_of(column):
    square = sum_of_products(column, column)
    if size_of(square) == 0:
        raise Degenerate()
    return root(square)


def make_upright(columns):
    """Makes the columns into q's, and gives back r's rows."""
    rows = zero_rows(len(columns))
    for c in range(len(columns)):
        length = length_of(columns[c])
        rows[c][c] = length
        columns[c] = [divide(x, length) for x in columns[c]]
        for j in range(c + 1, len(columns)):
            rows[c][j] = sum_of_products(columns[c], columns[j])
            columns[j] = less_scaled(columns[j], rows[c][j], columns[c])
    return rows


def sums_along(columns, b):
    """Of each column the sum of its products with what those before have left of b."""
    rest = b
    sums = []
    for column in columns:
        total = sum_of_products(column, rest)
        sums.append(total)
        # The last column's is taken too: nothing comes behind it, but it may not be finite.
        rest = less_scaled(rest, total, column)
    return sums


def least_solution(columns, b):
    rows = make_upright(columns)
    return solved_above(rows, sums_along(columns, b))
