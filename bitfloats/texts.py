"""Numbers as texts, a text being the list of its bytes: told in the fewest digits, and read."""

from bitfloats.exact import taken_apart
from bitfloats.formats import FRACTION_BITS, infinity_bits, is_infinite, is_nan, is_negative, is_zero
from bitfloats.formats import least_power, nan_bits, with_sign
from bitfloats.rounding import rounded

LONGEST_TEXT = 60
MOST_EXPONENT_DIGITS = 3
DIGIT_ZERO = 48
DIGIT_NINE = 57
PLUS = 43
MINUS = 45
POINT = 46
BIG_E = 69
SMALL_E = 101


class NoNumber(Exception):
    """The text is none of those that are read."""


def spelled(text):
    return [ord(letter) for letter in text]


def told(kind, a):
    if is_nan(kind, a):
        return spelled("nan")
    return spelled("-" if is_negative(kind, a) else "") + told_size(kind, a)


def told_size(kind, a):
    if is_infinite(kind, a):
        return spelled("inf")
    if is_zero(kind, a):
        return spelled("0")
    return shortest(kind, a)


def shortest(kind, a):
    """The fewest digits and the exponent of a number's size; the number is finite and not 0."""
    u = taken_apart(kind, a)
    # All is counted in quarters of the number's unit, as the next number below a power of two is
    # half as far away as the one above; a quarter is unit / d of what the digits' last place is worth.
    middle = 4 * u.size
    narrow = u.size == 1 << FRACTION_BITS[kind] and u.power > least_power(kind)
    low = middle - (1 if narrow else 2)
    high = middle + 2
    even = u.size % 2 == 0
    unit = 1 << max(u.power - 2, 0)
    d = 1 << max(2 - u.power, 0)
    exponent = 0
    while middle * unit >= 10 * d:
        d = 10 * d
        exponent = exponent + 1
    while middle * unit < d:
        unit = 10 * unit
        exponent = exponent - 1
    digits = digits_between(low * unit, middle * unit, high * unit, d, even)
    while digits is None:
        unit = 10 * unit
        exponent = exponent - 1
        digits = digits_between(low * unit, middle * unit, high * unit, d, even)
    return spelled_digits(digits, exponent)


def digits_between(low, middle, high, d, even):
    """The whole number from low / d to high / d (the ends count if even) nearest to middle / d, or None.

    Only the two next to middle / d are looked at: none lies nearer.
    """
    below = middle // d
    above = below + 1
    below_fits = below * d > low or (even and below * d == low)
    above_fits = above * d < high or (even and above * d == high)
    if below_fits and above_fits:
        return nearer(below, middle, d)
    if below_fits:
        return below
    return above if above_fits else None


def nearer(below, middle, d):
    """Of below and the next whole number the one nearer to middle / d, of two as near the even."""
    gap = 2 * middle - (2 * below + 1) * d
    if gap == 0:
        return below + below % 2
    return below if gap < 0 else below + 1


def spelled_digits(digits, exponent):
    while digits % 10 == 0:
        digits = digits // 10
        exponent = exponent + 1
    return spelled(f"{digits}e{exponent}")


def read(kind, mode, text):
    if text == spelled("nan"):
        return nan_bits(kind)
    negative = text[:1] == [MINUS]
    size = text[1:] if negative else text
    if size == spelled("inf"):
        return with_sign(kind, negative, infinity_bits(kind))
    return read_digits(kind, mode, negative, size)


def read_digits(kind, mode, negative, text):
    end = end_of_digits(text, 0)
    digits = text[:end]
    fraction = []
    if text[end:end + 1] == [POINT]:
        start = end + 1
        end = end_of_digits(text, start)
        fraction = text[start:end]
        if fraction == []:
            raise NoNumber()
    if digits == []:
        raise NoNumber()
    n = counted_digits(digits + fraction)
    exponent = read_exponent(text[end:]) - len(fraction)
    if exponent >= 0:
        return rounded(kind, mode, negative, n * power_of_ten(exponent), 1, 0)
    return rounded(kind, mode, negative, n, power_of_ten(-exponent), 0)


def read_exponent(text):
    """What stands behind the digits: nothing, or e, perhaps a sign, and 1 to 3 digits."""
    if text == []:
        return 0
    if text[0] != SMALL_E and text[0] != BIG_E:
        raise NoNumber()
    has_sign = text[1:2] == [PLUS] or text[1:2] == [MINUS]
    digits = text[2:] if has_sign else text[1:]
    if digits == [] or len(digits) > MOST_EXPONENT_DIGITS or end_of_digits(digits, 0) < len(digits):
        raise NoNumber()
    size = counted_digits(digits)
    return -size if text[1] == MINUS else size


def end_of_digits(text, start):
    end = start
    while end < len(text) and DIGIT_ZERO <= text[end] <= DIGIT_NINE:
        end = end + 1
    return end


def counted_digits(digits):
    n = 0
    for digit in digits:
        n = 10 * n + digit - DIGIT_ZERO
    return n


def power_of_ten(exponent):
    power = 1
    for turn in range(exponent):
        power = 10 * power
    return power
