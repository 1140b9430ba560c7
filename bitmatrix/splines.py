"""What is made of points whose x rises: the second derivatives of a spline, and its values."""

from bitmatrix.double import TWO, add, divide, is_less, multiply, subtract

SIX = 0x4018000000000000


def differences(xs):
    return [subtract(xs[i + 1], xs[i]) for i in range(len(xs) - 1)]


def slopes_of(stretches, ys):
    rises = differences(ys)
    return [divide(rises[i], stretches[i]) for i in range(len(rises))]


def second_derivatives(xs, ys):
    seconds = [0] * len(xs)
    if len(xs) == 2:
        # No step is made, so a stretch that would not be finite refuses nothing.
        return seconds
    stretches = differences(xs)
    slopes = slopes_of(stretches, ys)
    cs = [0]
    ds = [0]
    for i in range(1, len(xs) - 1):
        before = stretches[i - 1]
        behind = stretches[i]
        m = subtract(multiply(TWO, add(before, behind)), multiply(before, cs[i - 1]))
        bend = multiply(SIX, subtract(slopes[i], slopes[i - 1]))
        cs.append(divide(behind, m))
        ds.append(divide(subtract(bend, multiply(before, ds[i - 1])), m))
    for i in range(len(xs) - 2, 0, -1):
        seconds[i] = subtract(ds[i], multiply(cs[i], seconds[i + 1]))
    return seconds


def stretch_at(xs, t):
    """Which point begins the stretch: the last but the ends that isn't behind t, or the first."""
    start = 0
    for i in range(1, len(xs) - 1):
        if not is_less(t, xs[i]):
            start = i
    return start


def bent(a, second):
    """(a a a - a) times the second derivative."""
    cube = multiply(multiply(a, a), a)
    return multiply(subtract(cube, a), second)


def value_at(t, xs, ys, seconds):
    i = stretch_at(xs, t)
    h = subtract(xs[i + 1], xs[i])
    a = divide(subtract(xs[i + 1], t), h)
    b = divide(subtract(t, xs[i]), h)
    bends = add(bent(a, seconds[i]), bent(b, seconds[i + 1]))
    bend = divide(multiply(bends, multiply(h, h)), SIX)
    line = add(multiply(a, ys[i]), multiply(b, ys[i + 1]))
    return add(line, bend)
