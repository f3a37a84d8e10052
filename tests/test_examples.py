"""Every example of the document, in the very form of the interface."""

import unittest

from bitfloats.numbers import answers


class Examples(unittest.TestCase):
    def test_one_and_one(self):
        self.assertEqual(answers([0, 0, 0, 0, 2, 0, 60, 2, 0, 60]), [4, 0, 2, 0, 64])

    def test_greatest_and_greatest(self):
        self.assertEqual(answers([0, 0, 0, 0, 2, 255, 123, 2, 255, 123]), [4, 0, 2, 0, 124])
        self.assertEqual(answers([0, 0, 0, 1, 2, 255, 123, 2, 255, 123]), [4, 0, 2, 255, 123])

    def test_one_less_one(self):
        self.assertEqual(answers([0, 0, 1, 0, 2, 0, 60, 2, 0, 60]), [4, 0, 2, 0, 0])
        self.assertEqual(answers([0, 0, 1, 1, 2, 0, 60, 2, 0, 60]), [4, 0, 2, 0, 128])

    def test_a_third(self):
        three = [2, 0, 66]
        self.assertEqual(answers([0, 0, 3, 0, 2, 0, 60] + three), [4, 0, 2, 85, 53])
        self.assertEqual(answers([0, 0, 3, 2, 2, 0, 60] + three), [4, 0, 2, 86, 53])

    def test_half_of_one(self):
        self.assertEqual(answers([0, 0, 3, 0, 2, 0, 60, 2, 0, 64]), [4, 0, 2, 0, 56])

    def test_text_of_a_tenth(self):
        self.assertEqual(answers([6, 0, 2, 0x66, 0x2E]), [6, 0, 4] + list(b"1e-1"))

    def test_read_1e5(self):
        self.assertEqual(answers([7, 0, 0, 3] + list(b"1e5")), [4, 0, 2, 0, 124])
        self.assertEqual(answers([7, 0, 3, 3] + list(b"1e5")), [4, 0, 2, 255, 123])

    def test_text_of_the_least_half(self):
        self.assertEqual(answers([6, 0, 2, 1, 0]), [6, 0, 4] + list(b"6e-8"))

    def test_forms_of_texts(self):
        self.assertEqual(answers([6, 0, 2, 0, 62]), [7, 0, 5] + list(b"15e-1"))
        big = [8] + list((0x7E37E43C8800759C).to_bytes(8, "little"))
        self.assertEqual(answers([6, 3] + big), [7, 0, 5] + list(b"1e300"))

    def test_the_nan_of_each_kind(self):
        nothing = ([0, 0], [0, 0], [0, 0, 0, 0], [0] * 8)
        out = (0xFE00, 0xFFC0, 0xFFC00000, 0xFFF8000000000000)
        for kind, zero in enumerate(nothing):
            row = [len(zero)] + zero
            wanted = list(out[kind].to_bytes(len(zero), "little"))
            self.assertEqual(answers([0, kind, 3, 0] + row + row), [2 + len(zero), 0, len(zero)] + wanted)
