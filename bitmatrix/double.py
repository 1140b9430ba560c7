"""The steps on doubles, each rounded to the nearest by itself, ties to even.

A double is its 64 bits. A step takes it apart as whole times two to the place, where place 0 is
the one of the smallest double's only bit: so places are never below 0 in a double, and a double's
bits without the sign are its place shifted up by 52, with its whole put on. (The whole's leading
bit, which the 64 bits don't keep, raises the field by the 1 by which it stands above the place.)
"""

from bitmatrix.refusals import NotFinite

SIGN = 0x8000000000000000
UNSIGNED = 0x7FFFFFFFFFFFFFFF
INFINITE = 0x7FF0000000000000
FRACTION = 0x000FFFFFFFFFFFFF
LEADING = 0x0010000000000000
ONE = 0x3FF0000000000000
TWO = 0x4000000000000000
# ONE is the whole 1 at this place.
UNIT_PLACE = 1074
# A quotient of wholes has then at least 58 bits: the last one lies below the half that decides.
QUOTIENT_SHIFT = 110
# A root of wholes has then at least 56 bits, likewise.
ROOT_SHIFT = 110


def size_of(x):
    """The double without its sign; sizes compare as whole numbers do."""
    return x & UNSIGNED


def is_finite(x):
    return (x & UNSIGNED) < INFINITE


def is_above_zero(x):
    return 0 < x < SIGN


def rank_of(x):
    """A whole number; they compare as their doubles do, and both zeros have the same."""
    return -(x & UNSIGNED) if x & SIGN else x


def is_less(x, y):
    return rank_of(x) < rank_of(y)


def negated(x):
    """The double with its sign turned: 0 has one too."""
    return x ^ SIGN


def whole_of(x):
    """The whole without its sign."""
    if x & INFINITE:
        return (x & FRACTION) | LEADING
    return x & FRACTION


def place_of(x):
    field = (x & UNSIGNED) >> 52
    return field - 1 if field else 0


def rounded(whole, place):
    """The double nearest to whole times two to the place, without a sign; place may be below 0."""
    if whole == 0:
        return 0
    drop = whole.bit_length() - 53
    if drop < -place:
        drop = -place
    if drop > 0:
        # Just under a half is put on, or just a half where that makes an odd number even.
        odd = (whole >> drop) & 1
        kept = (whole + (1 << (drop - 1)) - 1 + odd) >> drop
    else:
        kept = whole << -drop
    bits = ((place + drop) << 52) + kept
    if bits >= INFINITE:
        raise NotFinite()
    return bits


def add(x, y):
    x_place = place_of(x)
    y_place = place_of(y)
    place = x_place if x_place < y_place else y_place
    x_whole = whole_of(x) << (x_place - place)
    y_whole = whole_of(y) << (y_place - place)
    total = (-x_whole if x & SIGN else x_whole) + (-y_whole if y & SIGN else y_whole)
    if total == 0:
        # A sum of 0 has a sign only where both have it.
        return x & y & SIGN
    if total < 0:
        return SIGN | rounded(-total, place)
    return rounded(total, place)


def subtract(x, y):
    return add(x, y ^ SIGN)


def multiply(x, y):
    place = place_of(x) + place_of(y) - UNIT_PLACE
    return ((x ^ y) & SIGN) | rounded(whole_of(x) * whole_of(y), place)


def divide(x, y):
    below = whole_of(y)
    if below == 0:
        raise NotFinite()
    above = whole_of(x) << QUOTIENT_SHIFT
    quotient = above // below
    if quotient * below != above:
        # What is left over only has to keep the quotient off a tie.
        quotient = quotient | 1
    place = place_of(x) - place_of(y) + UNIT_PLACE - QUOTIENT_SHIFT
    return ((x ^ y) & SIGN) | rounded(quotient, place)


def whole_root(number):
    """The greatest whole number whose square is not above the number, which is from 1 on."""
    # Begun at or above the root, each guess comes nearer until it has come to it.
    guess = 1 << ((number.bit_length() + 1) // 2)
    better = (guess + number // guess) // 2
    while better < guess:
        guess = better
        better = (guess + number // guess) // 2
    return guess


def root(x):
    if size_of(x) == 0:
        return x
    if x & SIGN:
        raise NotFinite()
    # The place is halved, so it has to be even; UNIT_PLACE is.
    shift = ROOT_SHIFT + (place_of(x) & 1)
    square = whole_of(x) << shift
    whole = whole_root(square)
    if whole * whole != square:
        # As in a quotient.
        whole = whole | 1
    return rounded(whole, (place_of(x) - shift + UNIT_PLACE) // 2)
