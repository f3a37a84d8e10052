"""Numbers taken apart, and their sums and products before any rounding."""

from bitfloats.formats import FRACTION_BITS, infinity_bits, is_infinite, is_nan, is_negative
from bitfloats.formats import least_power, nan_bits, with_sign, without_sign
from bitfloats.rounding import DOWN, NEAREST, rounded, whole_quotient


class Exact:
    """A NaN, an infinity, or size 2^power; the sign is kept apart, as 0 has one too."""

    def __init__(self, nan, infinite, negative, size, power):
        self.nan = nan
        self.infinite = infinite
        self.negative = negative
        self.size = size
        self.power = power


def no_number():
    return Exact(True, False, True, 0, 0)


def infinity(negative):
    return Exact(False, True, negative, 0, 0)


def finite(negative, size, power):
    return Exact(False, False, negative, size, power)


def whole(z):
    return finite(z < 0, abs(z), 0)


def taken_apart(kind, bits):
    negative = is_negative(kind, bits)
    if is_nan(kind, bits):
        return no_number()
    if is_infinite(kind, bits):
        return infinity(negative)
    size = without_sign(kind, bits)
    field = size >> FRACTION_BITS[kind]
    if field == 0:
        return finite(negative, size, least_power(kind))
    # The field's lowest 1 stays in the size as the leading 1.
    return finite(negative, size - ((field - 1) << FRACTION_BITS[kind]), least_power(kind) + field - 1)


def packed(kind, mode, u):
    """The bits of a number that is rounded once."""
    if u.nan:
        return nan_bits(kind)
    if u.infinite:
        return with_sign(kind, u.negative, infinity_bits(kind))
    return rounded(kind, mode, u.negative, u.size, 1, u.power)


def negated(u):
    return Exact(u.nan, u.infinite, not u.negative, u.size, u.power)


def times_power(u, k):
    """u 2^k."""
    return Exact(u.nan, u.infinite, u.negative, u.size, u.power + k)


def is_nothing(u):
    return not u.nan and not u.infinite and u.size == 0


def times(u, v):
    if u.nan or v.nan:
        return no_number()
    negative = u.negative != v.negative
    if u.infinite or v.infinite:
        return no_number() if is_nothing(u) or is_nothing(v) else infinity(negative)
    return finite(negative, u.size * v.size, u.power + v.power)


def plus(u, v, mode):
    """The mode settles the sign of a sum that is 0, nothing else."""
    if u.nan or v.nan:
        return no_number()
    if u.infinite and v.infinite and u.negative != v.negative:
        return no_number()
    if u.infinite or v.infinite:
        return u if u.infinite else v
    power = min(u.power, v.power)
    total = counted(u, power) + counted(v, power)
    if total == 0:
        # Of one sign, only two 0s come to 0.
        negative = u.negative if u.negative == v.negative else mode == DOWN
        return finite(negative, 0, power)
    return finite(total < 0, abs(total), power)


def counted(u, power):
    """A finite number as a count of 2^power, which is not above the number's own power."""
    count = u.size << (u.power - power)
    return -count if u.negative else count


def whole_size(u, mode):
    """The size of a finite number rounded to a whole number."""
    if u.power >= 0:
        return u.size << u.power
    return whole_quotient(mode, u.negative, u.size, 1 << -u.power)


def whole_value(u, mode):
    """A finite number rounded to a whole number."""
    size = whole_size(u, mode)
    return -size if u.negative else size


def nearest_whole(u):
    return whole_value(u, NEAREST)
