"""text and read."""

import re
import struct
import unittest
from fractions import Fraction

from tests import helper as h

FORM = re.compile(r"(-?)([0-9]+)(?:\.([0-9]+))?(?:[eE]([+-]?[0-9]{1,3}))?")
TOLD = re.compile(r"(-?)([0-9]*[1-9])e(-?[0-9]+)")


def ten_to(power):
    return Fraction(10) ** power


def decade(x):
    power = 0
    while ten_to(power + 1) <= x:
        power += 1
    while ten_to(power) > x:
        power -= 1
    return power


def wanted_text(kind, a):
    """Of all rows of one digit, two digits .. those that are read back; of these the nearest."""
    if h.is_nan(kind, a):
        return "nan"
    minus = "-" if h.negative(kind, a) else ""
    if h.is_inf(kind, a):
        return minus + "inf"
    if h.is_zero(kind, a):
        return minus + "0"
    x = abs(h.value(kind, a))
    count = 0
    fitting = []
    while not fitting:
        count += 1
        for power in range(decade(x) - count - 1, decade(x) + 3):
            near = int(x / ten_to(power))
            for digits in range(near - 2, near + 4):
                row = str(digits)
                if digits > 0 and len(row) == count and row[-1] != "0":
                    number = digits * ten_to(power)
                    if h.round_to(kind, 0, number) == h.size(kind, a):
                        fitting.append((abs(number - x), digits % 2, f"{row}e{power}"))
    return minus + min(fitting)[2]


def wanted_read(kind, mode, text):
    """The bits, or None of a text that is none."""
    if text == "nan":
        return h.NAN[kind]
    if text in ("inf", "-inf"):
        return h.signed(kind, text[0] == "-", h.INFINITY[kind])
    found = FORM.fullmatch(text)
    if found is None:
        return None
    minus, digits, fraction, exponent = found.groups()
    fraction = fraction or ""
    number = int(digits + fraction) * ten_to(int(exponent or "0") - len(fraction))
    return h.round_to(kind, mode, -number if minus else number, minus == "-")


class Told(unittest.TestCase):
    def check(self, kind, some):
        for a, answer in zip(some, h.asked([h.text_call(kind, a) for a in some])):
            self.assertEqual(h.text_of(answer), wanted_text(kind, a), (kind, hex(a)))

    def test_edges(self):
        for kind in h.KINDS:
            self.check(kind, h.edges(kind) + h.nans(kind))

    def test_small_subnormal_numbers(self):
        for kind in (0, 1):
            self.check(kind, range(1, 400))
        self.check(2, range(1, 120))
        self.check(3, range(1, 40))

    def test_powers_of_two(self):
        # The next number below is nearer than the one above.
        for kind in (0, 1, 2):
            f = h.FRACTION_BITS[kind]
            self.check(kind, [field << f for field in range(1, 2 ** h.EXPONENT_BITS[kind] - 1)])

    def test_stirred_numbers(self):
        for kind in (0, 1, 2):
            stirred = h.Stirred(kind + 4)
            self.check(kind, [stirred.bits(kind) for _ in range(300)])

    def test_in_words(self):
        rows = (
            (0, 0x3C00, "1e0"), (0, 0xBC00, "-1e0"), (0, 0x3E00, "15e-1"), (0, 0x4900, "1e1"), (0, 0x7BFF, "655e2"),
            (0, 0x8000, "-0"), (0, 0, "0"), (0, 0x7C00, "inf"), (0, 0xFC00, "-inf"), (0, 0xFE00, "nan"), (0, 0x7C01, "nan"),
            (0, 0x2E66, "1e-1"), (0, 1, "6e-8"), (0, 0x8002, "-1e-7"), (1, 0x7F7F, "339e36"), (1, 1, "9e-41"),
            (2, 0x3DCCCCCD, "1e-1"), (2, 1, "1e-45"), (2, 0x7F7FFFFF, "34028235e31"), (3, 1, "5e-324"),
            (3, 0x7FEFFFFFFFFFFFFF, "17976931348623157e292"), (3, 0x7E37E43C8800759C, "1e300"),
            (3, 0x3FD5555555555555, "3333333333333333e-16"),
        )
        for kind, a, out in rows:
            self.assertEqual(h.text(kind, a), out)

    def test_doubles_as_python_tells_them(self):
        stirred = h.Stirred(6)
        some = [1 + stirred.below(h.INFINITY[3] - 1) for _ in range(1500)]
        some += [h.size(3, stirred.near_one(3, 60)) for _ in range(500)]
        some += [field << 52 for field in range(1, 2047)] + list(range(1, 300)) + [1 << i for i in range(52)]
        for a, answer in zip(some, h.asked([h.text_call(3, a) for a in some])):
            x = struct.unpack("<d", a.to_bytes(8, "little"))[0]
            self.assertEqual(self.parts(h.text_of(answer)), self.parts(repr(x)))

    def parts(self, text):
        mantissa, _, exponent = text.partition("e")
        whole, _, fraction = mantissa.partition(".")
        power = int(exponent or "0") - len(fraction)
        digits = int(whole + fraction)
        while digits % 10 == 0:
            digits //= 10
            power += 1
        return digits, power


class ReadBack(unittest.TestCase):
    """What's told is read back, and no row is shorter."""

    def check(self, kind, some):
        texts = [h.text_of(one) for one in h.asked([h.text_call(kind, a) for a in some])]
        back = h.asked([h.read_call(kind, 0, text) for text in texts])
        for a, text, answer in zip(some, texts, back):
            out = h.NAN[kind] if h.is_nan(kind, a) else a
            self.assertEqual(h.bits_of(kind, answer), out, (kind, hex(a), text))
        return texts

    def test_every_half(self):
        self.check(0, range(65536))

    def test_every_brain(self):
        self.check(1, range(65536))

    def test_stirred_singles_and_doubles(self):
        for kind in (2, 3):
            stirred = h.Stirred(kind + 90)
            self.check(kind, list(h.edges(kind)) + [stirred.bits(kind) for _ in range(3000)])

    def test_forms(self):
        for kind in h.KINDS:
            stirred = h.Stirred(kind + 95)
            some = [a for a in h.edges(kind) + tuple(stirred.bits(kind) for _ in range(300))
                    if h.is_finite(kind, a) and not h.is_zero(kind, a)]
            for text in self.check(kind, some):
                self.assertIsNotNone(TOLD.fullmatch(text), text)

    def test_no_row_is_shorter(self):
        """The nearest rows of one digit less, above and below, are read as other numbers."""
        for kind in h.KINDS:
            stirred = h.Stirred(kind + 97)
            some = [1 + stirred.below(h.INFINITY[kind] - 1) for _ in range(250)]
            cases = []
            for a, text in zip(some, self.check(kind, some)):
                digits, _, exponent = text.partition("e")
                if len(digits) > 1:
                    power = int(exponent) + 1
                    below = int(h.value(kind, a) / ten_to(power))
                    cases += [(a, f"{below}e{power}"), (a, f"{below + 1}e{power}")]
            for (a, text), answer in zip(cases, h.asked([h.read_call(kind, 0, text) for a, text in cases])):
                self.assertNotEqual(h.bits_of(kind, answer), a, text)


class Read(unittest.TestCase):
    def check(self, cases):
        for case, answer in zip(cases, h.asked([h.read_call(*case) for case in cases])):
            bits = wanted_read(*case)
            if bits is None:
                self.assertEqual(answer, [-2], case)
            else:
                self.assertEqual(h.bits_of(case[0], answer), bits, case)

    def everywhere(self, texts):
        self.check([(kind, mode, text) for text in texts for kind in h.KINDS for mode in h.MODES])

    def test_forms(self):
        self.everywhere((
            "0", "-0", "00", "-0.0", "0e5", "-0E-999", "0.000e+999", "1", "-1", "007", "1.5", "-1.50", "15e-1", "15E-1", "15e+1",
            "1e0", "1e00", "1e000", "1e999", "-1e999", "1e-999", "-1e-999", "0.1", "-0.1", "65504", "65519", "65519.99",
            "65520", "65520.01", "65536", "1e5", "3.4028235e38", "3.4028236e38", "1.7976931348623157e308",
            "1.7976931348623159e308", "4.9e-324", "2.4e-324", "2.5e-324", "2.98e-8", "2.99e-8", "1e-45", "7e-46",
            "123456789012345678901234567890", "0.00000000000000000000000001", "nan", "inf", "-inf",
        ))

    def test_none(self):
        none = (
            "", "-", "+1", "--1", "-nan", "+nan", "+inf", "--inf", "NaN", "NAN", "Inf", "INF", "infinity", "nan ", " nan", "in",
            "-in", "inf0", "infe1", ".5", "5.", "-.5", "1.e5", "1..5", "1.5.5", "e5", "-e5", "1e", "1e+", "1e-", "1e1234", "1e0001",
            "1e+1234", "1e++1", "1e+-1", "1ee1", "1e1e1", "1e1.5", "1e 1", " 1", "1 ", "1\n", "\n1", "1_0", "1,5", "0x10", "1f", "1e5f", "a",
            ".", "-.", "1.5e", "1.-5", "1-", "1e5-", "/", ":", "1:", "/1", "1e/", "1e:", "\xb2", "1\xb2", "1\x00", "\x00", "\xff", "1e-1-1",
        )
        for text in none:
            self.assertIsNone(wanted_read(0, 0, text), text)
        self.everywhere(none)

    def test_every_single_byte(self):
        for kind in h.KINDS:
            for byte in range(256):
                given = h.ask([h.READ, kind, 0, 1, byte])
                if 48 <= byte <= 57:
                    self.assertEqual(h.bits_of(kind, given), h.round_to(kind, 0, Fraction(byte - 48)))
                else:
                    self.assertEqual(given, [-2])

    def test_half_way_between_two_numbers(self):
        for kind in (0, 1):
            texts = []
            for a in (0, 1, 2, 2 ** h.FRACTION_BITS[kind] - 1, h.ONE[kind], h.ONE[kind] + 1, h.INFINITY[kind] - 1):
                middle = (h.size_value(kind, a) + h.size_value(kind, a + 1)) / 2
                texts += [text for text in self.around(middle) if len(text) <= 60]
            self.check([(kind, mode, minus + text) for text in texts for minus in ("", "-") for mode in h.MODES])
        self.assertEqual([h.read(0, mode, "2049") for mode in h.MODES], [0x6800, 0x6800, 0x6801, 0x6800, 0x6801])
        self.assertEqual([h.read(0, mode, "-2051") for mode in h.MODES], [0xE802, 0xE802, 0xE801, 0xE801, 0xE802])
        self.assertEqual([h.read(3, mode, "9007199254740993") for mode in h.MODES],
                         [0x4340000000000000, 0x4340000000000000, 0x4340000000000001, 0x4340000000000000,
                          0x4340000000000001])

    def around(self, x):
        """Texts of a number with a finite row of digits, and of numbers a little below and above it."""
        power = 0
        while x.denominator > 1:
            x *= 10
            power -= 1
        digits = x.numerator
        return [f"{digits}e{power}", f"{digits * 10 - 1}e{power - 1}", f"{digits * 10 + 1}e{power - 1}"]

    def test_what_rounds_to_nothing_keeps_its_sign(self):
        for kind in h.KINDS:
            s = h.SIGN[kind]
            self.assertEqual([h.read(kind, mode, "1e-900") for mode in h.MODES], [0, 0, 1, 0, 0])
            self.assertEqual([h.read(kind, mode, "-1e-900") for mode in h.MODES], [s, s + 1, s, s, s])
            self.assertEqual([h.read(kind, mode, "-0e7") for mode in h.MODES], [s] * 5)
            self.assertEqual([h.read(kind, mode, "0.0") for mode in h.MODES], [0] * 5)

    def test_stirred_texts(self):
        stirred = h.Stirred(44)
        cases = []
        for i in range(1500):
            text = "-" * stirred.below(2) + self.digits(stirred, 20)
            if stirred.below(2):
                text += "." + self.digits(stirred, 20)
            if stirred.below(3):
                text += "eE"[stirred.below(2)] + ("", "+", "-")[stirred.below(3)] + self.digits(stirred, 2 + i % 2)
            cases.append((i % 4, stirred.below(5), text))
        self.check(cases)

    def digits(self, stirred, most):
        return "".join(str(stirred.below(10)) for _ in range(1 + stirred.below(most)))

    def test_doubles_as_python_reads_them(self):
        stirred = h.Stirred(45)
        for _ in range(500):
            text = f"{stirred.below(10 ** 12)}.{stirred.below(10 ** 12)}e{stirred.below(600) - 320}"
            self.assertEqual(h.read(3, 0, text), int.from_bytes(struct.pack("<d", float(text)), "little"))

    def test_sixty_bytes_and_one_more(self):
        for kind in h.KINDS:
            for mode in h.MODES:
                self.assertEqual(h.read(kind, mode, "0" * 59 + "1"), h.ONE[kind])
                self.assertEqual(h.read(kind, mode, "1." + "0" * 54 + "e-00"), h.ONE[kind])
                self.assertEqual(h.ask(h.read_call(kind, mode, "0" * 60 + "1")), [-1])
                self.assertEqual(h.ask(h.read_call(kind, mode, "x" * 60)), [-2])
                self.assertEqual(h.ask(h.read_call(kind, mode, "x" * 61)), [-1])
                self.assertEqual(h.ask(h.read_call(kind, mode, "1" * 100)), [-1])
        nines = "9" * 56 + "e999"
        self.check([(kind, mode, text) for text in (nines, "9" * 55 + "e-999") for kind in h.KINDS for mode in h.MODES])
