"""The functions: the root, rounded once, and those that go by told steps in doubles."""

from bitfloats.exact import finite, is_nothing, nearest_whole, packed, plus, taken_apart, times_power, whole
from bitfloats.formats import DOUBLE, infinity_bits, is_infinite, is_nan, is_negative, is_zero, nan_bits
from bitfloats.formats import FRACTION_BITS, with_sign, without_sign
from bitfloats.operations import added, converted, divided, fused, multiplied, place, scaled, signed, subtracted
from bitfloats.rounding import NEAREST, rounded, turned

LAST_FUNCTION = 5
ROOT = 4
POWER = 5

ONE = 0x3FF0000000000000
TWO_TO_THE_52 = 0x4330000000000000
# Twice the least f of the logarithm.
ABOVE_F = 0x3FF6A09E667F3BCD
LEAST_EXPONENT = -1200
GREATEST_EXPONENT = 1100

EXP2 = (
    0x3FF0000000000000, 0x3FE62E42FEFA39EF, 0x3FCEBFBDFF82C58F, 0x3FAC6B08D704A0C0, 0x3F83B2AB6FBA4E77,
    0x3F55D87FE78A6731, 0x3F2430912F86C787, 0x3EEFFCBFC588B0C7, 0x3EB62C0223A5C824, 0x3E7B5253D395E7C4,
    0x3E3E4CF5158B8ECA, 0x3DFE8CAC7351BB25, 0x3DBC3BD650FC2986, 0x3D7816193166D0F9,
)
LOG2 = (
    0x40071547652B82FE, 0x3FEEC709DC3A03FD, 0x3FE2776C50EF9BFE, 0x3FDA61762A7ADED9, 0x3FD484B13D7C02A9,
    0x3FD0C9A84994022D, 0x3FCC68F568D31760, 0x3FC89F3B1694CFFE, 0x3FC5B9AC9B743F0D, 0x3FC3703C1F4D0FFE,
    0x3FC1964EC6FC9491, 0x3FC00ECD7E080215,
)
SINE = (
    0x401921FB54442D18, 0xC044ABBCE625BE53, 0x405466BC6775AAE2, 0xC0532D2CCE62BD86, 0x40450783487EE782,
    0xC02E3074FDE8871F, 0x400E8F434D018D63, 0xBFE6FADB9F155744, 0x3FBAAEC32AF93359,
)
COSINE_FIRST = 0x3FF0000000000000
COSINE_OTHERS = (
    0xC033BD3CC9BE45DE, 0x40503C1F081B5AC4, 0xC0555D3C7E3CBFFA, 0x404E1F506891BABB, 0xC03A6D1F2A204A8C,
    0x401F9D38A3763CC3, 0xBFFB6E24F44B128F, 0x3FD20C62C2F2D7F5,
)


def function(kind, number, mode, a, b):
    if number == ROOT:
        return root(kind, mode, a)
    if kind == DOUBLE:
        return by_steps(number, mode, a, b)
    x = converted(kind, DOUBLE, NEAREST, a)
    y = converted(kind, DOUBLE, NEAREST, b)
    return converted(DOUBLE, kind, mode, by_steps(number, NEAREST, x, y))


def by_steps(number, mode, x, y):
    if number == 0:
        return power_of_two(mode, x)
    if number == 1:
        return logarithm(mode, x)
    if number == 2:
        return wave(mode, x, 0)
    if number == 3:
        return wave(mode, x, 1)
    return raised(mode, x, y)


def root(kind, mode, a):
    u = taken_apart(kind, a)
    if is_nothing(u):
        return a
    if u.nan or u.negative:
        return nan_bits(kind)
    if u.infinite:
        return a
    # The power is made even, and the size so long that its root has the format's digits and two more.
    shift = 2 * FRACTION_BITS[kind] + 6 + u.power % 2
    size = u.size << shift
    whole_root = floor_root(size)
    # A last binary digit of 1 says that something is left: it lies below all that rounding looks at.
    more = 0 if whole_root * whole_root == size else 1
    return rounded(kind, mode, False, 2 * whole_root + more, 1, (u.power - shift) // 2 - 1)


def floor_root(n):
    """The greatest whole number whose square is not above n, which is above 0."""
    guess = 1 << ((n.bit_length() + 1) // 2)
    better = (guess + n // guess) // 2
    while better < guess:
        guess = better
        better = (guess + n // guess) // 2
    return guess


def horner(row, y):
    so_far = row[-1]
    for before in reversed(row[:-1]):
        so_far = fused(DOUBLE, NEAREST, so_far, y, before)
    return so_far


def whole_bits(z):
    return packed(DOUBLE, NEAREST, whole(z))


def power_of_two(mode, x):
    if is_nan(DOUBLE, x):
        return nan_bits(DOUBLE)
    if is_infinite(DOUBLE, x):
        return 0 if is_negative(DOUBLE, x) else x
    exponent = held(x)
    k = nearest_whole(taken_apart(DOUBLE, exponent))
    y = subtracted(DOUBLE, NEAREST, exponent, whole_bits(k))
    if is_zero(DOUBLE, y):
        y = 0
    return scaled(DOUBLE, mode, horner(EXP2, y), k)


def held(x):
    least = whole_bits(LEAST_EXPONENT)
    greatest = whole_bits(GREATEST_EXPONENT)
    if place(DOUBLE, x) < place(DOUBLE, least):
        return least
    return greatest if place(DOUBLE, x) > place(DOUBLE, greatest) else x


def logarithm(mode, x):
    if is_nan(DOUBLE, x):
        return nan_bits(DOUBLE)
    if is_zero(DOUBLE, x):
        return with_sign(DOUBLE, True, infinity_bits(DOUBLE))
    if is_negative(DOUBLE, x):
        return nan_bits(DOUBLE)
    if is_infinite(DOUBLE, x):
        return x
    u = taken_apart(DOUBLE, x)
    leading = u.size.bit_length() - 1
    k = u.power + leading
    f = packed(DOUBLE, NEAREST, finite(False, u.size, -leading))
    if f >= ABOVE_F:
        k = k + 1
        f = scaled(DOUBLE, NEAREST, f, -1)
    t = divided(DOUBLE, NEAREST, subtracted(DOUBLE, NEAREST, f, ONE), added(DOUBLE, NEAREST, f, ONE))
    y = multiplied(DOUBLE, NEAREST, t, t)
    return fused(DOUBLE, mode, t, horner(LOG2, y), whole_bits(k))


def wave(mode, x, quarters):
    """The sine of x turns and so many quarters of a turn more."""
    if is_nan(DOUBLE, x) or is_infinite(DOUBLE, x):
        return nan_bits(DOUBLE)
    u = taken_apart(DOUBLE, x)
    if without_sign(DOUBLE, x) >= TWO_TO_THE_52:
        u = finite(u.negative, 0, 0)
    n = nearest_whole(times_power(u, 2))
    f = packed(DOUBLE, NEAREST, beyond_quarters(u, n))
    y = multiplied(DOUBLE, NEAREST, f, f)
    quadrant = (n + quarters) % 4
    if quadrant % 2 == 0:
        return multiplied(DOUBLE, mode, turned_if(quadrant == 2, f), horner(SINE, y))
    so_far = turned_if(quadrant == 3, horner(COSINE_OTHERS, y))
    return fused(DOUBLE, mode, so_far, y, turned_if(quadrant == 3, COSINE_FIRST))


def beyond_quarters(u, n):
    """u - n / 4; a 0 has u's sign."""
    left = plus(u, times_power(whole(-n), -2), NEAREST)
    return finite(u.negative, 0, 0) if is_nothing(left) else left


def turned_if(asked, x):
    return signed(DOUBLE, x, is_negative(DOUBLE, x) != asked)


def raised(mode, x, y):
    if is_nan(DOUBLE, x) or is_nan(DOUBLE, y):
        return nan_bits(DOUBLE)
    if is_zero(DOUBLE, y):
        return ONE
    if is_infinite(DOUBLE, y):
        return raised_to_infinity(x, y)
    negative = is_negative(DOUBLE, x) and is_odd(y)
    if is_zero(DOUBLE, x) or is_infinite(DOUBLE, x):
        grows = is_zero(DOUBLE, x) == is_negative(DOUBLE, y)
        return with_sign(DOUBLE, negative, infinity_bits(DOUBLE) if grows else 0)
    if is_negative(DOUBLE, x) and not is_whole(y):
        return nan_bits(DOUBLE)
    exponent = multiplied(DOUBLE, NEAREST, y, logarithm(NEAREST, without_sign(DOUBLE, x)))
    size = power_of_two(turned(mode) if negative else mode, exponent)
    return with_sign(DOUBLE, negative, size)


def raised_to_infinity(x, y):
    size = without_sign(DOUBLE, x)
    if size == ONE:
        return ONE
    # Doubles above 0 have the order of their bits.
    return infinity_bits(DOUBLE) if (size < ONE) == is_negative(DOUBLE, y) else 0


def is_whole(y):
    u = taken_apart(DOUBLE, y)
    return u.power >= 0 or u.size % (1 << -u.power) == 0


def is_odd(y):
    """Whether a number is whole and odd."""
    u = taken_apart(DOUBLE, y)
    if u.power > 0:
        return False
    return u.size % (1 << (1 - u.power)) == 1 << -u.power
