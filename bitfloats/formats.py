"""The four formats: how wide they are, and which bits stand for what."""

DOUBLE = 3
LAST_KIND = 3

EXPONENT_BITS = (5, 8, 8, 11)
FRACTION_BITS = (10, 7, 23, 52)


def byte_count(kind):
    return (1 + EXPONENT_BITS[kind] + FRACTION_BITS[kind]) // 8


def least_power(kind):
    """The least unit is 2^least_power."""
    bias = (1 << (EXPONENT_BITS[kind] - 1)) - 1
    return 1 - bias - FRACTION_BITS[kind]


def sign_bit(kind):
    return 1 << (EXPONENT_BITS[kind] + FRACTION_BITS[kind])


def infinity_bits(kind):
    """+infinity; one less is the greatest finite number, and more (without a sign) is a NaN."""
    return ((1 << EXPONENT_BITS[kind]) - 1) << FRACTION_BITS[kind]


def nan_bits(kind):
    """The one NaN that comes out."""
    return sign_bit(kind) + infinity_bits(kind) + (1 << (FRACTION_BITS[kind] - 1))


def is_negative(kind, bits):
    return bits >= sign_bit(kind)


def without_sign(kind, bits):
    return bits & (sign_bit(kind) - 1)


def with_sign(kind, negative, size):
    return size + sign_bit(kind) if negative else size


def is_nan(kind, bits):
    return without_sign(kind, bits) > infinity_bits(kind)


def is_infinite(kind, bits):
    return without_sign(kind, bits) == infinity_bits(kind)


def is_zero(kind, bits):
    return without_sign(kind, bits) == 0


def bits_of_row(row):
    bits = 0
    for place, byte in enumerate(row):
        bits = bits + (byte << (8 * place))
    return bits


def row_of_bits(kind, bits):
    return [(bits >> (8 * place)) & 255 for place in range(byte_count(kind))]
