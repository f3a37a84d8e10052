"""Operations on the bits of numbers: those of op, and fused, scaled, converted, whole numbers, compared."""

from bitfloats.exact import counted, finite, is_nothing, negated, packed, plus
from bitfloats.exact import taken_apart, times, times_power, whole, whole_size, whole_value
from bitfloats.formats import infinity_bits, is_nan, is_negative, is_zero, nan_bits, with_sign, without_sign
from bitfloats.rounding import NEAREST, rounded, whole_quotient

LAST_OPERATION = 10
LAST_HOW = 1
UNORDERED = 2


def operation(kind, number, mode, a, b):
    if number == 0:
        return added(kind, mode, a, b)
    if number == 1:
        return subtracted(kind, mode, a, b)
    if number == 2:
        return multiplied(kind, mode, a, b)
    if number == 3:
        return divided(kind, mode, a, b)
    if number == 4:
        return rest(kind, a, b)
    if number == 5:
        return lesser(kind, a, b)
    if number == 6:
        return greater(kind, a, b)
    if number == 7:
        return signed(kind, a, False)
    if number == 8:
        return signed(kind, a, not is_negative(kind, a))
    if number == 9:
        return signed(kind, a, is_negative(kind, b) and not is_nan(kind, b))
    return whole_number(kind, mode, a)


def added(kind, mode, a, b):
    return packed(kind, mode, plus(taken_apart(kind, a), taken_apart(kind, b), mode))


def subtracted(kind, mode, a, b):
    return packed(kind, mode, plus(taken_apart(kind, a), negated(taken_apart(kind, b)), mode))


def multiplied(kind, mode, a, b):
    return packed(kind, mode, times(taken_apart(kind, a), taken_apart(kind, b)))


def divided(kind, mode, a, b):
    u = taken_apart(kind, a)
    v = taken_apart(kind, b)
    negative = u.negative != v.negative
    if u.nan or v.nan or (u.infinite and v.infinite) or (is_nothing(u) and is_nothing(v)):
        return nan_bits(kind)
    if u.infinite or is_nothing(v):
        return with_sign(kind, negative, infinity_bits(kind))
    if v.infinite:
        return with_sign(kind, negative, 0)
    return rounded(kind, mode, negative, u.size, v.size, u.power - v.power)


def rest(kind, a, b):
    u = taken_apart(kind, a)
    v = taken_apart(kind, b)
    if u.nan or v.nan or u.infinite or is_nothing(v):
        return nan_bits(kind)
    if v.infinite:
        return a
    # A rest is always a number of the format: no mode has a say in it.
    return packed(kind, NEAREST, exact_rest(u, v))


def exact_rest(u, v):
    """u less the multiple of v, which is not 0, that is nearest to it."""
    power = min(u.power, v.power)
    n = abs(counted(u, power))
    d = abs(counted(v, power))
    left = n - d * whole_quotient(NEAREST, False, n, d)
    if left < 0:
        return finite(not u.negative, -left, power)
    return finite(u.negative, left, power)


def lesser(kind, a, b):
    if is_nan(kind, a) or is_nan(kind, b):
        return the_number(kind, a, b)
    return a if place(kind, a) <= place(kind, b) else b


def greater(kind, a, b):
    if is_nan(kind, a) or is_nan(kind, b):
        return the_number(kind, a, b)
    return a if place(kind, a) >= place(kind, b) else b


def the_number(kind, a, b):
    """Of two, one of them a NaN, the one that is none."""
    if not is_nan(kind, a):
        return a
    return nan_bits(kind) if is_nan(kind, b) else b


def signed(kind, a, negative):
    if is_nan(kind, a):
        return nan_bits(kind)
    return with_sign(kind, negative, without_sign(kind, a))


def whole_number(kind, mode, a):
    u = taken_apart(kind, a)
    if u.nan or u.infinite:
        return packed(kind, mode, u)
    return packed(kind, mode, finite(u.negative, whole_size(u, mode), 0))


def fused(kind, mode, a, b, c):
    product = times(taken_apart(kind, a), taken_apart(kind, b))
    return packed(kind, mode, plus(product, taken_apart(kind, c), mode))


def scaled(kind, mode, a, k):
    return packed(kind, mode, times_power(taken_apart(kind, a), k))


def converted(from_kind, to_kind, mode, a):
    return packed(to_kind, mode, taken_apart(from_kind, a))


def held_whole(kind, mode, width, has_sign, a):
    """A number as a whole number that is held at the ends of so many bits."""
    least = -(1 << (width - 1)) if has_sign else 0
    greatest = least + (1 << width) - 1
    u = taken_apart(kind, a)
    if u.nan:
        return 0
    if u.infinite:
        return least if u.negative else greatest
    return min(max(whole_value(u, mode), least), greatest)


def from_whole(kind, mode, z):
    return packed(kind, mode, whole(z))


def place(kind, a):
    """A number's place in the order that sorts."""
    size = without_sign(kind, a)
    if size > infinity_bits(kind):
        return infinity_bits(kind) + 1
    # -0 stands at -1, so that it comes before +0.
    return -size - 1 if is_negative(kind, a) else size


def compared(kind, how, a, b):
    if how == 0 and (is_nan(kind, a) or is_nan(kind, b)):
        return UNORDERED
    if how == 0 and is_zero(kind, a) and is_zero(kind, b):
        return 0
    if place(kind, a) == place(kind, b):
        return 0
    return -1 if place(kind, a) < place(kind, b) else 1
