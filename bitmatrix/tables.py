"""Tables and rows of doubles, and the runs of steps that several calls make with them."""

from bitmatrix.double import add, multiply, subtract


def rows_of(numbers, width):
    return [numbers[start:start + width] for start in range(0, len(numbers), width)]


def columns_of(numbers, width):
    return [numbers[start::width] for start in range(width)]


def joined(rows):
    numbers = []
    for row in rows:
        numbers.extend(row)
    return numbers


def sum_of_products(xs, ys):
    # The first product begins the sum: 0 put before it would turn a sum of -0 into 0.
    total = multiply(xs[0], ys[0])
    for i in range(1, len(xs)):
        total = add(total, multiply(xs[i], ys[i]))
    return total


def less_products(start, xs, ys):
    """The start, less the products of both rows, one after another."""
    rest = start
    for i in range(len(xs)):
        rest = subtract(rest, multiply(xs[i], ys[i]))
    return rest


def less_scaled(xs, factor, ys):
    """Each number of the first row, less the factor times that of the second."""
    return [subtract(xs[i], multiply(factor, ys[i])) for i in range(len(xs))]


def product_table(rows, columns):
    numbers = []
    for row in rows:
        for column in columns:
            numbers.append(sum_of_products(row, column))
    return numbers
