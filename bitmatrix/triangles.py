"""What is made with triangular parts: lu, what is solved and told by it, and cholesky."""

from bitmatrix.double import divide, is_above_zero, multiply, negated, root, size_of
from bitmatrix.refusals import Degenerate
from bitmatrix.tables import less_products, less_scaled, unit_rows, zero_rows


def pivot_index(rows, c):
    """The first row from c on whose number in column c is greatest, its sign aside."""
    best = c
    for r in range(c + 1, len(rows)):
        if size_of(rows[r][c]) > size_of(rows[best][c]):
            best = r
    if size_of(rows[best][c]) == 0:
        raise Degenerate()
    return best


def exchange(xs, i, j):
    kept = xs[i]
    xs[i] = xs[j]
    xs[j] = kept


def reduced(row, pivot_row, c):
    """The row with its factor kept in column c, and that times the pivot row taken behind it."""
    factor = divide(row[c], pivot_row[c])
    # A factor of 0 is not passed over: its products may still turn the sign of a zero.
    return row[:c] + [factor] + less_scaled(row[c + 1:], factor, pivot_row[c + 1:])


def decompose(rows, order):
    """Makes the rows into both triangular parts, and lets order go along with them."""
    for c in range(len(rows)):
        pivot = pivot_index(rows, c)
        exchange(rows, c, pivot)
        exchange(order, c, pivot)
        for r in range(c + 1, len(rows)):
            rows[r] = reduced(rows[r], rows[c], c)


def solved_below(rows, order, b):
    """From the top, by the part below the diagonal, which has ones on it."""
    ys = []
    for i in range(len(rows)):
        ys.append(less_products(b[order[i]], rows[i][:i], ys))
    return ys


def solved_above(rows, ys):
    """From the bottom, by the part from the diagonal on."""
    xs = list(ys)
    for i in range(len(rows) - 1, -1, -1):
        rest = less_products(ys[i], rows[i][i + 1:], xs[i + 1:])
        xs[i] = divide(rest, rows[i][i])
    return xs


def solution(rows, order, b):
    return solved_above(rows, solved_below(rows, order, b))


def turns_sign(order):
    """Whether an odd number of pairs stand the wrong way round."""
    wrong = 0
    for j in range(len(order)):
        for i in range(j):
            if order[i] > order[j]:
                wrong = wrong + 1
    return wrong % 2 == 1


def determinant(rows, order):
    total = rows[0][0]
    for i in range(1, len(rows)):
        total = multiply(total, rows[i][i])
    return negated(total) if turns_sign(order) else total


def inverse_columns(rows, order):
    """The solutions for the columns of the unit table."""
    return [solution(rows, order, column) for column in unit_rows(len(rows))]


def diagonal_root(number, made):
    """The root of the number, less the squares of what was made so far in its row."""
    square = less_products(number, made, made)
    if not is_above_zero(square):
        raise Degenerate()
    return root(square)


def cholesky_rows(rows):
    lower = zero_rows(len(rows))
    for c in range(len(rows)):
        lower[c][c] = diagonal_root(rows[c][c], lower[c][:c])
        for r in range(c + 1, len(rows)):
            rest = less_products(rows[r][c], lower[r][:c], lower[c][:c])
            lower[r][c] = divide(rest, lower[c][c])
    return lower
