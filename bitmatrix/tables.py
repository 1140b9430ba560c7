"""Tables and rows of doubles, and the runs of steps that several calls make with them."""

from bitmatrix.double import ONE, add, multiply, subtract


def rows_of(numbers, width):
    return [numbers[start:start + width] for start in range(0, len(numbers), width)]


def columns_of(numbers, width):
    return [numbers[start::width] for start in range(width)]


def zero_rows(n):
    return [[0] * n for i in range(n)]


def unit_rows(n):
    rows = zero_rows(n)
    for i in range(n):
        rows[i][i] = ONE
    return rows


def joined(rows):
    numbers = []
    for row in rows:
        numbers.extend(row)
    return numbers


def turned_about(rows):
    """The table whose rows are the columns of this one."""
    return columns_of(joined(rows), len(rows[0]))


def sum_of_products(xs, ys):
    # The first product begins the sum: 0 put before it would turn a sum of -0 into 0.
    total = multiply(xs[0], ys[0])
    for i in range(1, len(xs)):
        total = add(total, multiply(xs[i], ys[i]))
    return total


def less_products(start, xs, ys):
    """The start, less the products of both rows, one after another."""
    rest = start
    for i in range(len(xs)):
        rest = subtract(rest, multiply(xs[i], ys[i]))
    return rest


def less_scaled(xs, factor, ys):
    """Each number of the first row, less the factor times that of the second."""
    return [subtract(xs[i], multiply(factor, ys[i])) for i in range(len(xs))]


def product_table(rows, columns):
    numbers = []
    for row in rows:
        for column in columns:
            numbers.append(sum_of_products(row, column))
    return numbers
