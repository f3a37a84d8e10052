"""The five roundings, and an exact quotient rounded once to a format."""

from bitfloats.formats import FRACTION_BITS, infinity_bits, least_power, with_sign

NEAREST = 0
DOWN = 1
UP = 2
TOWARD_ZERO = 3
NEAREST_AWAY = 4
LAST_MODE = 4


def turned(mode):
    """The mode that does to a number what the given one does to its negative."""
    if mode == DOWN:
        return UP
    return DOWN if mode == UP else mode


def whole_quotient(mode, negative, n, d):
    """The whole number that n / d, the size of a number of that sign, is rounded to."""
    quotient = n // d
    rest = n - quotient * d
    if rest == 0 or not goes_outward(mode, negative, quotient % 2 == 1, 2 * rest, d):
        return quotient
    return quotient + 1


def goes_outward(mode, negative, odd, twice_rest, d):
    """Whether a size between two whole numbers, the lesser of them odd or not, goes to the greater."""
    if mode == DOWN:
        return negative
    if mode == UP:
        return not negative
    if mode == TOWARD_ZERO:
        return False
    if twice_rest == d:
        return odd or mode == NEAREST_AWAY
    return twice_rest > d


def leading_power(n, d):
    """The greatest power with 2^power not above n / d."""
    power = n.bit_length() - d.bit_length()
    if power >= 0:
        below = n < d << power
    else:
        below = n << -power < d
    return power - 1 if below else power


def rounded(kind, mode, negative, n, d, power):
    """The bits of n / d 2^power of that sign, rounded once; n may be 0."""
    if n == 0:
        return with_sign(kind, negative, 0)
    fraction_bits = FRACTION_BITS[kind]
    least = least_power(kind)
    unit = max(leading_power(n, d) + power - fraction_bits, least)
    shift = power - unit
    if shift >= 0:
        count = whole_quotient(mode, negative, n << shift, d)
    else:
        count = whole_quotient(mode, negative, n, d << -shift)
    # The count brings the leading 1, which raises the exponent's field by 1 where there is one.
    size = ((unit - least) << fraction_bits) + count
    if size >= infinity_bits(kind):
        size = beyond_greatest(kind, mode, negative)
    return with_sign(kind, negative, size)


def beyond_greatest(kind, mode, negative):
    if mode == TOWARD_ZERO or mode == (UP if negative else DOWN):
        return infinity_bits(kind) - 1
    return infinity_bits(kind)
