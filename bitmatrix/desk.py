"""The calls. Each answers a list: 0 and then what was made, or a refusal's number alone."""

from bitmatrix.columns import least_solution, make_upright
from bitmatrix.double import is_finite, size_of
from bitmatrix.refusals import NotFinite, OutOfRange, Refusal
from bitmatrix.tables import columns_of, joined, product_table, rows_of, turned_about
from bitmatrix.triangles import cholesky_rows, decompose, determinant, inverse_columns, solution

LARGEST_SIZE = 32


def check_size(size):
    if size < 1 or size > LARGEST_SIZE:
        raise OutOfRange()


def check_tall(m, n):
    check_size(m)
    check_size(n)
    if m < n:
        raise OutOfRange()


def check_finite(numbers):
    for x in numbers:
        if not is_finite(x):
            raise NotFinite()


def check_order(order, n):
    if sorted(order) != list(range(n)):
        raise OutOfRange()


def check_diagonal(rows):
    for i in range(len(rows)):
        if size_of(rows[i][i]) == 0:
            raise OutOfRange()


def check_same_turned_about(rows):
    # By their bits: 0 and -0 are not the same.
    if turned_about(rows) != rows:
        raise OutOfRange()


def product(n, m, k, a, b):
    try:
        check_size(n)
        check_size(m)
        check_size(k)
        check_finite(a)
        check_finite(b)
        return [0] + product_table(rows_of(a, m), columns_of(b, k))
    except Refusal as refusal:
        return [refusal.number]


def lu(n, a):
    try:
        check_size(n)
        check_finite(a)
        rows = rows_of(a, n)
        order = list(range(n))
        decompose(rows, order)
        return [0] + joined(rows) + order
    except Refusal as refusal:
        return [refusal.number]


def solve(n, a, order, b):
    try:
        check_size(n)
        check_finite(a)
        check_finite(b)
        check_order(order, n)
        rows = rows_of(a, n)
        check_diagonal(rows)
        return [0] + solution(rows, order, b)
    except Refusal as refusal:
        return [refusal.number]


def det(n, a, order):
    try:
        check_size(n)
        check_finite(a)
        check_order(order, n)
        return [0, determinant(rows_of(a, n), order)]
    except Refusal as refusal:
        return [refusal.number]


def inverse(n, a):
    try:
        check_size(n)
        check_finite(a)
        rows = rows_of(a, n)
        order = list(range(n))
        decompose(rows, order)
        return [0] + joined(turned_about(inverse_columns(rows, order)))
    except Refusal as refusal:
        return [refusal.number]


def cholesky(n, a):
    try:
        check_size(n)
        check_finite(a)
        rows = rows_of(a, n)
        check_same_turned_about(rows)
        return [0] + joined(cholesky_rows(rows))
    except Refusal as refusal:
        return [refusal.number]


def upright(m, n, a):
    try:
        check_tall(m, n)
        check_finite(a)
        columns = columns_of(a, n)
        rows = make_upright(columns)
        return [0] + joined(turned_about(columns)) + joined(rows)
    except Refusal as refusal:
        return [refusal.number]


def least(m, n, a, b):
    try:
        check_tall(m, n)
        check_finite(a)
        check_finite(b)
        return [0] + least_solution(columns_of(a, n), b)
    except Refusal as refusal:
        return [refusal.number]
