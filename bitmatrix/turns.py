"""What is made with turns of two columns at a time: jacobi's values and vectors."""

from bitmatrix.double import ONE, SIGN, TWO, add, divide, multiply, root, size_of, subtract
from bitmatrix.tables import unit_rows


def tangent(rows, p, q):
    """u of the turn that makes the number at p, q to 0."""
    h = divide(subtract(rows[q][q], rows[p][p]), multiply(TWO, rows[p][q]))
    g = root(add(multiply(h, h), ONE))
    # The sign's bit is taken over as it is: an h of -0 makes u go below 0 too.
    return divide(ONE, add(size_of(h), g)) | (h & SIGN)


def cosine(u):
    return divide(ONE, root(add(multiply(u, u), ONE)))


def first_turned(x, y, c, s):
    return subtract(multiply(c, x), multiply(s, y))


def second_turned(x, y, c, s):
    return add(multiply(s, x), multiply(c, y))


def turn_columns(rows, p, q, c, s):
    for i in range(len(rows)):
        x = rows[i][p]
        y = rows[i][q]
        rows[i][p] = first_turned(x, y, c, s)
        rows[i][q] = second_turned(x, y, c, s)


def turn_rows(rows, p, q, c, s):
    xs = rows[p]
    ys = rows[q]
    rows[p] = [first_turned(xs[i], ys[i], c, s) for i in range(len(xs))]
    rows[q] = [second_turned(xs[i], ys[i], c, s) for i in range(len(xs))]


def turn(rows, vectors, p, q):
    u = tangent(rows, p, q)
    c = cosine(u)
    s = multiply(u, c)
    turn_columns(rows, p, q, c, s)
    turn_rows(rows, p, q, c, s)
    rows[p][q] = 0
    rows[q][p] = 0
    turn_rows(vectors, p, q, c, s)


def turn_all(rows, rounds):
    """Turns the rows as often as told, and gives back the vectors, each as a row."""
    vectors = unit_rows(len(rows))
    for count in range(rounds):
        for p in range(len(rows)):
            for q in range(p + 1, len(rows)):
                if size_of(rows[p][q]) != 0:
                    turn(rows, vectors, p, q)
    return vectors
