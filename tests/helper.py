"""What the tests share: calls written out, answers taken apart, and a second, slow account of the formats.

The second account knows numbers as Fractions and rounds by looking for the two neighbours among the
format's numbers, so that it shares no way of counting with the program.
"""

from fractions import Fraction
from functools import lru_cache

from bitfloats.numbers import answers

KINDS = (0, 1, 2, 3)
MODES = (0, 1, 2, 3, 4)
EXPONENT_BITS = (5, 8, 8, 11)
FRACTION_BITS = (10, 7, 23, 52)
BYTES = (2, 2, 4, 8)
SIGN = (0x8000, 0x8000, 0x80000000, 0x8000000000000000)
INFINITY = (0x7C00, 0x7F80, 0x7F800000, 0x7FF0000000000000)
NAN = (0xFE00, 0xFFC0, 0xFFC00000, 0xFFF8000000000000)
ONE = (0x3C00, 0x3F80, 0x3F800000, 0x3FF0000000000000)
FAR = 9007199254740991

OP, FMA, SCALE, CONV, FN, CMP, TEXT, READ, CLEAR, TAKE, GET, SUM, DOT, TO_WHOLE, FLOAT = range(15)
ADD, SUB, MUL, DIV, REST, LESSER, GREATER, SIZE, MINUS, COPY, WHOLE = range(11)
EXP, LOG, SIN, COS, ROOT, POW = range(6)


# Calls and answers

def row(kind, bits):
    return list(bits.to_bytes(BYTES[kind], "little"))


def long_row(kind, some):
    return [byte for bits in some for byte in row(kind, bits)]


def counted(numbers):
    return [len(numbers)] + list(numbers)


def call(number, wholes, rows):
    out = [number] + list(wholes)
    for one in rows:
        out += counted(one)
    return out


def split(given):
    """The answers of a list, each without how many numbers it has."""
    out = []
    at = 0
    while at < len(given):
        count = given[at]
        out.append(given[at + 1:at + 1 + count])
        assert len(out[-1]) == count
        at += 1 + count
    return out


def asked(calls):
    """The answers to many calls, at most 400 calls and 19,000 numbers a list."""
    out = []
    lot = []
    many = 0
    for one in calls:
        if many == 400 or len(lot) + len(one) > 19000:
            out += split(answers(lot))
            lot = []
            many = 0
        lot += one
        many += 1
    if many:
        out += split(answers(lot))
    return out


def ask(one):
    given = split(answers(list(one)))
    assert len(given) == 1
    return given[0]


def bits_of(kind, answer):
    """The bits of an answer that is a number of this kind."""
    assert answer[0] == 0 and answer[1] == BYTES[kind] and len(answer) == 2 + BYTES[kind], answer
    return int.from_bytes(bytes(answer[2:]), "little")


def op_call(kind, number, mode, a, b=0):
    return call(OP, (kind, number, mode), (row(kind, a), row(kind, b)))


def fma_call(kind, mode, a, b, c):
    return call(FMA, (kind, mode), (row(kind, a), row(kind, b), row(kind, c)))


def scale_call(kind, mode, k, a):
    return call(SCALE, (kind, mode, k), (row(kind, a),))


def conv_call(kind, to, mode, a):
    return call(CONV, (kind, to, mode), (row(kind, a),))


def fn_call(kind, number, mode, a, b=None):
    return call(FN, (kind, number, mode), (row(kind, a), [] if b is None else row(kind, b)))


def cmp_call(kind, how, a, b):
    return call(CMP, (kind, how), (row(kind, a), row(kind, b)))


def text_call(kind, a):
    return call(TEXT, (kind,), (row(kind, a),))


def read_call(kind, mode, text):
    return call(READ, (kind, mode), (list(text.encode("latin-1")),))


def add_call(kind, a, b=None):
    return call(TAKE, (kind,), (row(kind, a), [] if b is None else row(kind, b)))


def get_call(kind, mode):
    return call(GET, (kind, mode), ())


def sum_call(kind, order, mode, some):
    return call(SUM, (kind, order, mode), (long_row(kind, some),))


def dot_call(kind, order, mode, some, others):
    return call(DOT, (kind, order, mode), (long_row(kind, some), long_row(kind, others)))


def whole_call(kind, mode, bits, sign, a):
    return call(TO_WHOLE, (kind, mode, bits, sign), (row(kind, a),))


def float_call(kind, mode, z):
    return call(FLOAT, (kind, mode, z), ())


def op(kind, number, mode, a, b=0):
    return bits_of(kind, ask(op_call(kind, number, mode, a, b)))


def fma(kind, mode, a, b, c):
    return bits_of(kind, ask(fma_call(kind, mode, a, b, c)))


def scale(kind, mode, k, a):
    return bits_of(kind, ask(scale_call(kind, mode, k, a)))


def conv(kind, to, mode, a):
    return bits_of(to, ask(conv_call(kind, to, mode, a)))


def fn(kind, number, mode, a, b=None):
    return bits_of(kind, ask(fn_call(kind, number, mode, a, b)))


def summed(kind, order, mode, some):
    return bits_of(kind, ask(sum_call(kind, order, mode, some)))


def dotted(kind, order, mode, some, others):
    return bits_of(kind, ask(dot_call(kind, order, mode, some, others)))


def floated(kind, mode, z):
    return bits_of(kind, ask(float_call(kind, mode, z)))


def read(kind, mode, text):
    return bits_of(kind, ask(read_call(kind, mode, text)))


def text_of(answer):
    assert answer[0] == 0 and answer[1] == len(answer) - 2, answer
    return bytes(answer[2:]).decode("ascii")


def text(kind, a):
    return text_of(ask(text_call(kind, a)))


# The second account

def size(kind, bits):
    return bits & (SIGN[kind] - 1)


def negative(kind, bits):
    return bits >= SIGN[kind]


def is_nan(kind, bits):
    return size(kind, bits) > INFINITY[kind]


def is_inf(kind, bits):
    return size(kind, bits) == INFINITY[kind]


def is_zero(kind, bits):
    return size(kind, bits) == 0


def is_finite(kind, bits):
    return size(kind, bits) < INFINITY[kind]


def bias(kind):
    return 2 ** (EXPONENT_BITS[kind] - 1) - 1


@lru_cache(maxsize=None)
def two_to(power):
    return Fraction(2) ** power


@lru_cache(maxsize=200000)
def size_value(kind, bits):
    """The size that the bits stand for; infinity as 2^(bias + 1), where the numbers would go on."""
    bits = size(kind, bits)
    field = bits >> FRACTION_BITS[kind]
    fraction = bits % 2 ** FRACTION_BITS[kind]
    if field == 0:
        return fraction * two_to(1 - bias(kind) - FRACTION_BITS[kind])
    return (2 ** FRACTION_BITS[kind] + fraction) * two_to(field - bias(kind) - FRACTION_BITS[kind])


def value(kind, bits):
    return -size_value(kind, bits) if negative(kind, bits) else size_value(kind, bits)


def neighbour_below(kind, wanted):
    """The bits of the greatest size (infinity's stand-in the last) not above the wanted one."""
    low = 0
    high = INFINITY[kind]
    while low < high:
        middle = (low + high + 1) // 2
        if size_value(kind, middle) <= wanted:
            low = middle
        else:
            high = middle - 1
    return low


def rounds_out(mode, below_zero, odd, low, wanted, high):
    if mode in (1, 2):
        return below_zero == (mode == 1)
    if mode == 3:
        return False
    left = wanted - low
    right = high - wanted
    if left == right:
        return odd or mode == 4
    return right < left


def round_to(kind, mode, number, zero_negative=False):
    """The bits of a Fraction rounded once; the sign of an exact 0 is told."""
    if number == 0:
        return SIGN[kind] if zero_negative else 0
    below_zero = number < 0
    wanted = abs(number)
    bits = neighbour_below(kind, wanted)
    if bits < INFINITY[kind]:
        low = size_value(kind, bits)
        high = size_value(kind, bits + 1)
        if low != wanted and rounds_out(mode, below_zero, bits % 2 == 1, low, wanted, high):
            bits += 1
    if bits == INFINITY[kind] and (mode == 3 or mode == (2 if below_zero else 1)):
        bits -= 1
    return bits + (SIGN[kind] if below_zero else 0)


def signed(kind, below_zero, bits):
    return size(kind, bits) + (SIGN[kind] if below_zero else 0)


def moved(kind, to, mode, a):
    """The bits of a number converted to another kind."""
    minus = negative(kind, a)
    if is_nan(kind, a):
        return NAN[to]
    if is_inf(kind, a):
        return signed(to, minus, INFINITY[to])
    return round_to(to, mode, value(kind, a), minus)


def wanted_sum(kind, mode, a, b):
    if is_nan(kind, a) or is_nan(kind, b):
        return NAN[kind]
    if is_inf(kind, a) and is_inf(kind, b):
        return a if a == b else NAN[kind]
    if is_inf(kind, a) or is_inf(kind, b):
        return a if is_inf(kind, a) else b
    if is_zero(kind, a) and is_zero(kind, b) and a == b:
        return a
    return round_to(kind, mode, value(kind, a) + value(kind, b), mode == 1)


def wanted_fused(kind, mode, a, b, c):
    if any(is_nan(kind, one) for one in (a, b, c)):
        return NAN[kind]
    minus = negative(kind, a) != negative(kind, b)
    if is_inf(kind, a) or is_inf(kind, b):
        if is_zero(kind, a) or is_zero(kind, b) or (is_inf(kind, c) and negative(kind, c) != minus):
            return NAN[kind]
        return signed(kind, minus, INFINITY[kind])
    if is_inf(kind, c):
        return c
    exact = value(kind, a) * value(kind, b)
    if exact == 0 and is_zero(kind, c) and minus == negative(kind, c):
        return c
    return round_to(kind, mode, exact + value(kind, c), mode == 1)


def wanted_exact(kind, mode, terms):
    """What is got of an exact sum; a term is a kind and one number of it, or a kind and the two of a product."""
    total = Fraction(0)
    signs = set()
    for term in terms:
        of = term[0]
        some = term[1:]
        if any(is_nan(of, a) for a in some):
            return NAN[kind]
        minus = sum(negative(of, a) for a in some) % 2 == 1
        if any(is_inf(of, a) for a in some):
            if any(is_zero(of, a) for a in some):
                return NAN[kind]
            signs.add(minus)
        else:
            total += value(of, some[0]) * (value(of, some[1]) if len(some) == 2 else 1)
    if len(signs) == 2:
        return NAN[kind]
    if signs:
        return signed(kind, signs.pop(), INFINITY[kind])
    return round_to(kind, mode, total, mode == 1)


def to_whole(mode, x):
    """A Fraction as a whole number by the mode."""
    down = x.numerator // x.denominator
    if x == down or mode == 1:
        return down
    if mode == 2:
        return down + 1
    if mode == 3:
        return down if x > 0 else down + 1
    if mode == 4 and x - down == Fraction(1, 2):
        return down + 1 if x > 0 else down
    # Python's round of a Fraction is to nearest, of two the even.
    return round(x)


# Numbers to try

def edge_sizes(kind):
    """Sizes of numbers that lie at the formats' edges, NaNs not among them."""
    f = FRACTION_BITS[kind]
    one = ONE[kind]
    return (
        0, 1, 2, 3, 2 ** f - 1, 2 ** f, 2 ** f + 1, 2 ** (f + 1), 2 ** (f - 1),
        one - 2 ** f, one - 1, one, one + 1, one + 2 ** (f - 1), one + 2 ** f, one + 2 ** f + 2 ** (f - 1),
        one + 2 ** (f + 1) + 2 ** (f - 2), one + f * 2 ** f, one + (f + 1) * 2 ** f + 1, one + (f - 1) * 2 ** f + 1,
        INFINITY[kind] - 2 ** f, INFINITY[kind] - 2, INFINITY[kind] - 1, INFINITY[kind],
    )


def nans(kind):
    f = FRACTION_BITS[kind]
    inf = INFINITY[kind]
    return (inf + 1, inf + 2 ** (f - 1), SIGN[kind] - 1, inf + SIGN[kind] + 1, NAN[kind], 2 * SIGN[kind] - 1)


def edges(kind):
    sizes = edge_sizes(kind)
    return sizes + tuple(bits + SIGN[kind] for bits in sizes)


class Stirred:
    """Bits without a plain order, the same in each run."""

    def __init__(self, seed):
        self.state = seed

    def below(self, limit):
        self.state = (self.state * 6364136223846793005 + 1442695040888963407) % 2 ** 64
        return (self.state >> 11) * limit >> 53

    def bits(self, kind):
        out = 0
        for _ in range(BYTES[kind]):
            out = out * 256 + self.below(256)
        return out

    def near_one(self, kind, span):
        """A number of either sign whose exponent's field is at most span away from 1's."""
        field = bias(kind) + self.below(2 * span + 1) - span
        return self.below(2) * SIGN[kind] + (field << FRACTION_BITS[kind]) + self.bits(kind) % 2 ** FRACTION_BITS[kind]
