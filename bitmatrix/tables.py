"""What is made of tables, step by step; sizes and doubles are looked at before."""

from bitmatrix.double import add, divide, multiply, size_of, subtract
from bitmatrix.refusals import NoPivot


def rows_of(numbers, width):
    return [numbers[start:start + width] for start in range(0, len(numbers), width)]


def columns_of(numbers, width):
    return [numbers[start::width] for start in range(width)]


def joined(rows):
    numbers = []
    for row in rows:
        numbers.extend(row)
    return numbers


def sum_of_products(xs, ys):
    # The first product begins the sum: 0 put before it would turn a sum of -0 into 0.
    total = multiply(xs[0], ys[0])
    for i in range(1, len(xs)):
        total = add(total, multiply(xs[i], ys[i]))
    return total


def product_table(rows, columns):
    numbers = []
    for row in rows:
        for column in columns:
            numbers.append(sum_of_products(row, column))
    return numbers


def pivot_index(rows, c):
    """The first row from c on whose number in column c is greatest, its sign aside."""
    best = c
    for r in range(c + 1, len(rows)):
        if size_of(rows[r][c]) > size_of(rows[best][c]):
            best = r
    if size_of(rows[best][c]) == 0:
        raise NoPivot()
    return best


def exchange(xs, i, j):
    kept = xs[i]
    xs[i] = xs[j]
    xs[j] = kept


def reduced(row, pivot_row, c):
    """The row with its factor kept in column c, and that times the pivot row taken behind it."""
    factor = divide(row[c], pivot_row[c])
    # A factor of 0 is not passed over: its products may still turn the sign of a zero.
    behind = [subtract(row[j], multiply(factor, pivot_row[j])) for j in range(c + 1, len(row))]
    return row[:c] + [factor] + behind


def decompose(rows, order):
    """Makes the rows into both triangular parts, and lets order go along with them."""
    for c in range(len(rows)):
        pivot = pivot_index(rows, c)
        exchange(rows, c, pivot)
        exchange(order, c, pivot)
        for r in range(c + 1, len(rows)):
            rows[r] = reduced(rows[r], rows[c], c)
