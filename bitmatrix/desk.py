"""The calls. Each answers a list: 0 and then what was made, or a refusal's number alone."""

from bitmatrix.columns import least_solution, make_upright
from bitmatrix.double import is_finite, is_less, size_of
from bitmatrix.refusals import NotFinite, OutOfRange, Refusal
from bitmatrix.splines import second_derivatives, value_at
from bitmatrix.tables import columns_of, joined, product_table, rows_of, turned_about
from bitmatrix.triangles import cholesky_rows, decompose, determinant, inverse_columns, solution
from bitmatrix.turns import turn_all

LARGEST_SIZE = 32
LARGEST_ROUNDS = 64


def check_size(size, smallest=1):
    if size < smallest or size > LARGEST_SIZE:
        raise OutOfRange()


def check_rounds(rounds):
    if rounds < 0 or rounds > LARGEST_ROUNDS:
        raise OutOfRange()


def check_tall(m, n):
    check_size(m)
    check_size(n)
    if m < n:
        raise OutOfRange()


def check_finite(numbers):
    for x in numbers:
        if not is_finite(x):
            raise NotFinite()


def check_order(order, n):
    if sorted(order) != list(range(n)):
        raise OutOfRange()


def check_diagonal(rows):
    for i in range(len(rows)):
        if size_of(rows[i][i]) == 0:
            raise OutOfRange()


def check_same_turned_about(rows):
    # By their bits: 0 and -0 are not the same.
    if turned_about(rows) != rows:
        raise OutOfRange()


def check_rising(x):
    for i in range(1, len(x)):
        if not is_less(x[i - 1], x[i]):
            raise OutOfRange()


def product(n, m, k, a, b):
    try:
        check_size(n)
        check_size(m)
        check_size(k)
        check_finite(a)
        check_finite(b)
        return [0] + product_table(rows_of(a, m), columns_of(b, k))
    except Refusal as refusal:
        return [refusal.number]


def lu(n, a):
    try:
        check_size(n)
        check_finite(a)
        rows = rows_of(a, n)
        order = list(range(n))
        decompose(rows, order)
        return [0] + joined(rows) + order
    except Refusal as refusal:
        return [refusal.number]


def solve(n, a, order, b):
    try:
        check_size(n)
        check_finite(a)
        check_finite(b)
        check_order(order, n)
        rows = rows_of(a, n)
        check_diagonal(rows)
        return [0] + solution(rows, order, b)
    except Refusal as refusal:
        return [refusal.number]


def det(n, a, order):
    try:
        check_size(n)
        check_finite(a)
        check_order(order, n)
        return [0, determinant(rows_of(a, n), order)]
    except Refusal as refusal:
        return [refusal.number]


def inverse(n, a):
    try:
        check_size(n)
        check_finite(a)
        rows = rows_of(a, n)
        order = list(range(n))
        decompose(rows, order)
        return [0] + joined(turned_about(inverse_columns(rows, order)))
    except Refusal as refusal:
        return [refusal.number]


def cholesky(n, a):
    try:
        check_size(n)
        check_finite(a)
        rows = rows_of(a, n)
        check_same_turned_about(rows)
        return [0] + joined(cholesky_rows(rows))
    except Refusal as refusal:
        return [refusal.number]


def upright(m, n, a):
    try:
        check_tall(m, n)
        check_finite(a)
        columns = columns_of(a, n)
        rows = make_upright(columns)
        return [0] + joined(turned_about(columns)) + joined(rows)
    except Refusal as refusal:
        return [refusal.number]


def least(m, n, a, b):
    try:
        check_tall(m, n)
        check_finite(a)
        check_finite(b)
        return [0] + least_solution(columns_of(a, n), b)
    except Refusal as refusal:
        return [refusal.number]


def jacobi(n, rounds, a):
    try:
        check_size(n)
        check_rounds(rounds)
        check_finite(a)
        rows = rows_of(a, n)
        check_same_turned_about(rows)
        vectors = turn_all(rows, rounds)
        return [0] + [rows[i][i] for i in range(n)] + joined(turned_about(vectors))
    except Refusal as refusal:
        return [refusal.number]


def spline(n, x, y):
    try:
        check_size(n, 2)
        check_finite(x)
        check_finite(y)
        check_rising(x)
        return [0] + second_derivatives(x, y)
    except Refusal as refusal:
        return [refusal.number]


def value(n, t, x, y, second):
    try:
        check_size(n, 2)
        check_finite([t])
        check_finite(x)
        check_finite(y)
        check_finite(second)
        check_rising(x)
        return [0, value_at(t, x, y, second)]
    except Refusal as refusal:
        return [refusal.number]
