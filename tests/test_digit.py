"""Promise 3: digit."""

import unittest

from widetexts.chars import digit

ZEROS = [0x30, 0x660, 0x6F0, 0x966, 0xFF10]

NO_DIGITS = [
    0x0, 0x9, 0x20, 0x2F, 0x3A, 0x41, 0x61, 0xB2, 0xB9, 0x7C0, 0x9E6, 0x2070, 0x2080, 0x2460, 0x3007, 0x4E00,
    0xD800, 0xDFFF, 0x104A0, 0x1D7CE, 0x10FFFF, 0x110000, 0x110030, 0x80000030, 0xFFFF0030, 4294967295,
]


class DigitTest(unittest.TestCase):
    def check(self, c, answer):
        self.assertEqual(digit(c), [answer], f"digit(0x{c:X})")

    def test_each_of_the_ten(self):
        for zero in ZEROS:
            for value in range(10):
                self.check(zero + value, value)

    def test_both_ends(self):
        for first, last in ((0x30, 0x39), (0x660, 0x669), (0x6F0, 0x6F9), (0x966, 0x96F), (0xFF10, 0xFF19)):
            self.check(first, 0)
            self.check(last, 9)

    def test_right_before_and_right_behind(self):
        for zero in ZEROS:
            self.check(zero - 1, -1)
            self.check(zero + 10, -1)

    def test_any_other_is_minus_one(self):
        for c in NO_DIGITS:
            self.check(c, -1)

    def test_every_character_by_the_words(self):
        values = {zero + value: value for zero in ZEROS for value in range(10)}
        wrong = [hex(c) for c in range(0x110200) if digit(c) != [values.get(c, -1)]]
        self.assertEqual(wrong, [])


if __name__ == "__main__":
    unittest.main()
