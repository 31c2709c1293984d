"""Promise 7: number."""

import itertools
import unittest

from widetexts.chars import number

ZEROS = [0x30, 0x660, 0x6F0, 0x966, 0xFF10]
BLANKS = [0x9, 0xA, 0xB, 0xC, 0xD, 0x20, 0x85, 0xA0, *range(0x2000, 0x200B), 0x2028, 0x2029, 0x202F, 0x3000]
NO_BLANKS = [0x0, 0x8, 0xE, 0x1F, 0x21, 0x84, 0x86, 0x9F, 0xA1, 0x1FFF, 0x200B, 0x2027, 0x202A, 0x202E, 0x2030,
             0x205F, 0x2FFF, 0x3001, 0xFEFF, 0xD800, 0x110000, 0x80000020, 4294967295]

MOST = 2 ** 63 - 1
LEAST = -2 ** 63


def chars_of(text):
    return [ord(sign) for sign in text]


def row_of(value, zero):
    return [zero + int(figure) for figure in str(value)]


def number_by_words(text):
    rest = list(text)
    while rest and rest[0] in BLANKS:
        rest = rest[1:]
    below = rest[:1] in ([0x2D], [0x2212])
    if below or rest[:1] == [0x2B]:
        rest = rest[1:]
    ahead = len(text) - len(rest)
    best = [0, 0]
    for zero in ZEROS:
        row = list(itertools.takewhile(lambda c: zero <= c <= zero + 9, rest))
        if row:
            value = int("".join(str(c - zero) for c in row))
            best = [max(-value, LEAST) if below else min(value, MOST), ahead + len(row)]
    return best


class NumberTest(unittest.TestCase):
    def check(self, text, value, used):
        if isinstance(text, str):
            text = chars_of(text)
        self.assertEqual(number(text), [value, used], f"{text[:30]}")

    def test_ordinary(self):
        self.check("0", 0, 1)
        self.check("7", 7, 1)
        self.check("42", 42, 2)
        self.check("1234567890", 1234567890, 10)
        self.check("42 apples", 42, 2)
        self.check("12.5", 12, 2)
        self.check("1-2", 1, 1)

    def test_nothing_there(self):
        for text in ("", " ", "  \t\n", "a", "a1", "x 5", ".5", "*", "abc"):
            self.check(text, 0, 0)
        self.check(BLANKS, 0, 0)

    def test_blanks_of_each_kind(self):
        for blank in BLANKS:
            self.check([blank, 0x37], 7, 2)
            self.check([blank, blank, 0x2D, 0x37, 0x38], -78, 5)
            self.check([blank], 0, 0)
        self.check(BLANKS + [0x35], 5, len(BLANKS) + 1)

    def test_what_is_no_blank(self):
        for c in NO_BLANKS:
            self.check([c, 0x37], 0, 0)
            self.check([0x20, c, 0x37], 0, 0)

    def test_a_blank_behind_the_digits(self):
        self.check("5 ", 5, 1)
        self.check(" 5 6", 5, 2)

    def test_signs(self):
        self.check("+5", 5, 2)
        self.check("-5", -5, 2)
        self.check([0x2212, 0x35], -5, 2)
        self.check("  +12x", 12, 5)
        self.check("  -12x", -12, 5)
        self.check([0x20, 0x2212, 0x31, 0x32], -12, 4)
        self.check("-0", 0, 2)
        self.check("+0", 0, 2)
        self.check("-007", -7, 4)

    def test_what_is_no_sign(self):
        for c in (0x2A, 0x2C, 0x2E, 0xB1, 0x2010, 0x2013, 0x2014, 0x2211, 0x2213, 0xFF0B, 0xFF0D, 0xFE63, 0x8000002D):
            self.check([c, 0x35], 0, 0)

    def test_two_signs(self):
        signs = [0x2B, 0x2D, 0x2212]
        for one, other in itertools.product(signs, signs):
            self.check([one, other, 0x35], 0, 0)

    def test_a_sign_and_no_digit(self):
        for sign in (0x2B, 0x2D, 0x2212):
            self.check([sign], 0, 0)
            self.check([0x20, sign], 0, 0)
            self.check([sign, 0x20, 0x35], 0, 0)
            self.check([sign, 0x61], 0, 0)
            self.check([sign, 0x3000, 0x35], 0, 0)

    def test_digits_of_each_row_of_ten(self):
        for zero in ZEROS:
            self.check([zero + value for value in range(10)], 123456789, 10)
            self.check([zero + value for value in range(9, -1, -1)], 9876543210, 10)
            self.check([0x2D, zero + 4, zero + 2, 0x61], -42, 3)
            self.check([zero], 0, 1)
            self.check([zero - 1], 0, 0)
            self.check([zero + 10], 0, 0)
            self.check([zero + 9, zero + 10], 9, 1)

    def test_another_row_of_ten_ends_it(self):
        for zero, other in itertools.permutations(ZEROS, 2):
            self.check([zero + 1, zero + 2, other + 3], 12, 2)
            self.check([0x20, 0x2B, zero + 1, other + 2, zero + 3], 1, 3)
            self.check([zero, other + 5], 0, 1)

    def test_zeros_ahead(self):
        self.check("000", 0, 3)
        self.check("007", 7, 3)
        self.check("0" * 100 + "12", 12, 102)
        self.check("-" + "0" * 100 + "12", -12, 103)
        self.check("0" * 30 + "9223372036854775807", MOST, 49)

    def test_around_the_bounds(self):
        for zero in ZEROS:
            for value in (2 ** 63 - 2, 2 ** 63 - 1, 2 ** 63, 2 ** 63 + 1, 2 ** 64, 10 ** 19, 2 ** 31, 2 ** 32):
                row = row_of(value, zero)
                self.check(row, min(value, MOST), len(row))
                self.check([0x2B] + row, min(value, MOST), len(row) + 1)
                self.check([0x2D] + row, max(-value, LEAST), len(row) + 1)
                self.check([0x20, 0x2212] + row + [0x61], max(-value, LEAST), len(row) + 2)

    def test_the_bounds_written_out(self):
        self.check("9223372036854775807", 9223372036854775807, 19)
        self.check("9223372036854775808", 9223372036854775807, 19)
        self.check("-9223372036854775807", -9223372036854775807, 20)
        self.check("-9223372036854775808", -9223372036854775808, 20)
        self.check("-9223372036854775809", -9223372036854775808, 20)
        self.check("  92233720368547758070x", 9223372036854775807, 22)

    def test_rows_of_thousands(self):
        self.check("9" * 30000, MOST, 30000)
        self.check("-" + "9" * 29999, LEAST, 30000)
        self.check([0x2212] + [0xFF11] * 5000, LEAST, 5001)
        self.check("1" + "0" * 29999, MOST, 30000)
        self.check("0" * 29999 + "5", 5, 30000)
        self.check("9" * 20000 + "x", MOST, 20000)
        self.check(" " * 29998 + "-3", -3, 30000)
        self.check(" " * 30000, 0, 0)

    def test_short_texts_by_the_words(self):
        signs = [0x20, 0x3000, 0x2B, 0x2D, 0x2212, 0x30, 0x37, 0x662, 0xFF19, 0x61]
        for size in range(6):
            for text in itertools.product(signs, repeat=size):
                if number(list(text)) != number_by_words(list(text)):
                    self.fail(f"{text}")


if __name__ == "__main__":
    unittest.main()
