"""The same calls on the machine's own doubles, written apart from the package, to compare with."""

import functools
import math
import random
import struct

WRONG_SIZES = (0, 33, -1, -2147483648, 2147483647)
NOT_FINITE = (
    0x7FF0000000000000, 0xFFF0000000000000,  # both infinities
    0x7FF8000000000000, 0xFFF8000000000000,  # quiet NaNs
    0x7FF0000000000001, 0xFFF0000000000001,  # signalling NaNs
    0x7FFFFFFFFFFFFFFF, 0xFFFFFFFFFFFFFFFF,
)
NEGATIVE_ZERO = 0x8000000000000000
LARGEST = 0x7FEFFFFFFFFFFFFF
SMALLEST = 0x0000000000000001
SMALLEST_NORMAL = 0x0010000000000000


class Stop(Exception):
    """Carries the refusal's number."""


def bits(number):
    return struct.unpack("<Q", struct.pack("<d", number))[0]


def number(pattern):
    return struct.unpack("<d", struct.pack("<Q", pattern))[0]


def all_bits(numbers):
    return [bits(float(x)) for x in numbers]


def all_numbers(patterns):
    return [number(x) for x in patterns]


def finite(x):
    if not math.isfinite(x):
        raise Stop(-1)
    return x


def quotient(x, y):
    if y == 0:
        raise Stop(-1)
    return finite(x / y)


def less(start, factors, others):
    """The start less each product, one after another."""
    for x, y in zip(factors, others, strict=True):
        start = finite(start - finite(x * y))
    return start


def refusing(call):
    @functools.wraps(call)
    def answer(*arguments):
        try:
            return [0] + call(*arguments)
        except Stop as stop:
            return [stop.args[0]]
    return answer


@refusing
def product(n, m, k, a, b):
    a, b = all_numbers(a), all_numbers(b)
    answer = []
    for i in range(n):
        for j in range(k):
            total = None
            for t in range(m):
                part = finite(a[i * m + t] * b[t * k + j])
                total = part if total is None else finite(total + part)
            answer.append(bits(total))
    return answer


@refusing
def lu(n, a):
    a = all_numbers(a)
    order = list(range(n))
    for c in range(n):
        sizes = [abs(a[r * n + c]) for r in range(c, n)]
        if max(sizes) == 0:
            raise Stop(-2)
        p = c + sizes.index(max(sizes))
        for j in range(n):
            a[c * n + j], a[p * n + j] = a[p * n + j], a[c * n + j]
        order[c], order[p] = order[p], order[c]
        for r in range(c + 1, n):
            a[r * n + c] = finite(a[r * n + c] / a[c * n + c])
            for j in range(c + 1, n):
                a[r * n + j] = finite(a[r * n + j] - finite(a[r * n + c] * a[c * n + j]))
    return all_bits(a) + order


def from_the_bottom(n, a, y):
    x = [None] * n
    for i in reversed(range(n)):
        x[i] = quotient(less(y[i], a[i * n + i + 1:i * n + n], x[i + 1:]), a[i * n + i])
    return x


def need_order(n, order):
    if {i: order.count(i) for i in order} != {i: 1 for i in range(n)}:
        raise Stop(-8)


@refusing
def solve(n, a, order, b):
    a, b = all_numbers(a), all_numbers(b)
    need_order(n, order)
    if 0 in a[::n + 1]:
        raise Stop(-8)
    y = []
    for i in range(n):
        y.append(less(b[order[i]], a[i * n:i * n + i], y))
    return all_bits(from_the_bottom(n, a, y))


@refusing
def det(n, a, order):
    a = all_numbers(a)
    need_order(n, order)
    total = a[0]
    for i in range(1, n):
        total = finite(total * a[i * n + i])
    # Each exchange of two neighbours puts one pair right.
    order = list(order)
    for end in range(n):
        for i in range(n - 1 - end):
            if order[i] > order[i + 1]:
                order[i], order[i + 1] = order[i + 1], order[i]
                total = -total
    return [bits(total)]


def root(x):
    if x < 0:
        raise Stop(-1)
    return math.sqrt(x)


@refusing
def inverse(n, a):
    parts = lu(n, a)
    if parts[0] != 0:
        raise Stop(parts[0])
    answer = [None] * (n * n)
    for j in range(n):
        column = solve(n, parts[1:n * n + 1], parts[n * n + 1:], [bits(float(i == j)) for i in range(n)])
        if column[0] != 0:
            raise Stop(column[0])
        answer[j::n] = column[1:]
    return answer


def need_same_turned_about(n, a):
    for i in range(n):
        for j in range(n):
            if a[i * n + j] != a[j * n + i]:
                raise Stop(-8)


@refusing
def cholesky(n, a):
    need_same_turned_about(n, a)
    a = all_numbers(a)
    made = {}
    for c in range(n):
        square = less(a[c * n + c], [made[c, k] for k in range(c)], [made[c, k] for k in range(c)])
        if not square > 0:
            raise Stop(-2)
        made[c, c] = root(square)
        for r in range(c + 1, n):
            rest = less(a[r * n + c], [made[r, k] for k in range(c)], [made[c, k] for k in range(c)])
            made[r, c] = quotient(rest, made[c, c])
    return [bits(made.get((i, j), 0.0)) for i in range(n) for j in range(n)]


def dot(xs, ys):
    parts = []
    for x, y in zip(xs, ys, strict=True):
        part = finite(x * y)
        parts.append(finite(parts[-1] + part) if parts else part)
    return parts[-1]


def upright_parts(m, n, a):
    """q by columns and r by rows, as numbers."""
    if m < n:
        raise Stop(-8)
    a = all_numbers(a)
    q = [[a[i * n + j] for i in range(m)] for j in range(n)]
    r = [[0.0] * n for _ in range(n)]
    for c in range(n):
        square = dot(q[c], q[c])
        if square == 0:
            raise Stop(-2)
        r[c][c] = root(square)
        for i in range(m):
            q[c][i] = quotient(q[c][i], r[c][c])
        for j in range(c + 1, n):
            r[c][j] = dot(q[c], q[j])
            for i in range(m):
                q[j][i] = finite(q[j][i] - finite(r[c][j] * q[c][i]))
    return q, r


@refusing
def upright(m, n, a):
    q, r = upright_parts(m, n, a)
    return [bits(q[j][i]) for i in range(m) for j in range(n)] + [bits(x) for row in r for x in row]


@refusing
def least(m, n, a, b):
    q, r = upright_parts(m, n, a)
    b = all_numbers(b)
    sums = []
    for column in q:
        sums.append(dot(column, b))
        for i in range(m):
            b[i] = finite(b[i] - finite(sums[-1] * column[i]))
    return all_bits(from_the_bottom(n, [x for row in r for x in row], sums))


def turned_pair(x, y, c, s):
    first = finite(finite(c * x) - finite(s * y))
    return first, finite(finite(s * x) + finite(c * y))


@refusing
def jacobi(n, rounds, a):
    if not 0 <= rounds <= 64:
        raise Stop(-8)
    need_same_turned_about(n, a)
    a = dict(zip([(i, j) for i in range(n) for j in range(n)], all_numbers(a), strict=True))
    v = {(i, j): float(i == j) for i in range(n) for j in range(n)}
    pairs = [(p, q) for p in range(n) for q in range(p + 1, n)]
    for p, q in pairs * rounds:
        if a[p, q] == 0:
            continue
        h = quotient(finite(a[q, q] - a[p, p]), finite(2 * a[p, q]))
        g = root(finite(finite(h * h) + 1))
        u = math.copysign(quotient(1, finite(abs(h) + g)), h)
        c = quotient(1, root(finite(finite(u * u) + 1)))
        s = finite(u * c)
        for i in range(n):
            a[i, p], a[i, q] = turned_pair(a[i, p], a[i, q], c, s)
        for i in range(n):
            a[p, i], a[q, i] = turned_pair(a[p, i], a[q, i], c, s)
        a[p, q] = a[q, p] = 0.0
        for i in range(n):
            v[i, p], v[i, q] = turned_pair(v[i, p], v[i, q], c, s)
    return [bits(a[i, i]) for i in range(n)] + [bits(v[i, j]) for i in range(n) for j in range(n)]


def need_rising(x):
    if any(not before < behind for before, behind in zip(x, x[1:])):
        raise Stop(-8)


@refusing
def spline(n, x, y):
    x, y = all_numbers(x), all_numbers(y)
    need_rising(x)
    answer = [0.0] * n
    if n == 2:
        return all_bits(answer)
    h = [finite(x[i + 1] - x[i]) for i in range(n - 1)]
    w = [quotient(finite(y[i + 1] - y[i]), h[i]) for i in range(n - 1)]
    c, d = {0: 0.0}, {0: 0.0}
    for i in range(1, n - 1):
        m = finite(finite(2 * finite(h[i - 1] + h[i])) - finite(h[i - 1] * c[i - 1]))
        c[i] = quotient(h[i], m)
        d[i] = quotient(finite(finite(6 * finite(w[i] - w[i - 1])) - finite(h[i - 1] * d[i - 1])), m)
    for i in reversed(range(1, n - 1)):
        answer[i] = finite(d[i] - finite(c[i] * answer[i + 1]))
    return all_bits(answer)


@refusing
def value(n, t, x, y, second):
    t, x, y, second = number(t), all_numbers(x), all_numbers(y), all_numbers(second)
    need_rising(x)
    start = max([i for i in range(1, n - 1) if x[i] <= t], default=0)
    (before, behind), (y0, y1), (s0, s1) = (row[start:start + 2] for row in (x, y, second))
    h = finite(behind - before)
    a = quotient(finite(behind - t), h)
    b = quotient(finite(t - before), h)
    square = finite(h * h)
    first = finite(finite(finite(finite(a * a) * a) - a) * s0)
    other = finite(finite(finite(finite(b * b) * b) - b) * s1)
    bend = quotient(finite(finite(first + other) * square), 6)
    line = finite(finite(a * y0) + finite(b * y1))
    return [bits(finite(line + bend))]


EDGES = (
    0, SMALLEST, 2, 3, SMALLEST_NORMAL - 1, SMALLEST_NORMAL, SMALLEST_NORMAL + 1, 0x0020000000000000,
    0x1FF0000000000000, 0x1FF0000000000001, 0x2000000000000000, 0x3CA0000000000000, 0x3CA0000000000001,
    0x3FE0000000000000, 0x3FEFFFFFFFFFFFFF, 0x3FF0000000000000, 0x3FF0000000000001, 0x3FF8000000000000,
    0x4000000000000000, 0x4008000000000000, 0x4340000000000000, 0x433FFFFFFFFFFFFF, 0x5FEFFFFFFFFFFFFF,
    0x5FF0000000000000, 0x7C90000000000000, 0x7C9FFFFFFFFFFFFF, 0x7CA0000000000000, 0x7FE0000000000000,
    LARGEST - 1, LARGEST,
)


def any_double(source):
    """Any finite double: all exponents alike, and now and then an edge or few bits."""
    sign = source.getrandbits(1) << 63
    kind = source.randrange(4)
    if kind == 0:
        return sign | source.choice(EDGES)
    field = source.randrange(2047) << 52
    if kind == 1:
        return sign | field | (source.getrandbits(3) << source.randrange(50))
    return sign | field | source.getrandbits(52)


def double_between(source, low, high):
    """A double whose exponent field is from low to high; 1's is 1023."""
    field = source.randint(low, high) << 52
    return (source.getrandbits(1) << 63) | field | source.getrandbits(52)


def near_double(source, spread):
    """A double whose exponent is within spread of 1's."""
    return double_between(source, 1023 - spread, 1023 + spread)


def near_double_or_zero(source):
    """A double near 1, or 0 of either sign."""
    return near_double(source, 4) if source.randrange(4) else source.getrandbits(1) << 63


def large_or_small(source):
    """A double of few, so that sums end just about the largest or at 0."""
    size = source.choice((0, bits(0.5), bits(1.0), 0x7C90000000000000, 0x7FE0000000000000, LARGEST))
    return (source.getrandbits(1) << 63) | size


def small_whole(source):
    """A whole number from -3 to 3, both zeros among them."""
    return bits(source.choice((-3.0, -2.0, -1.0, -0.0, 0.0, 1.0, 2.0, 3.0)))


def seeded(seed):
    return random.Random(seed)
