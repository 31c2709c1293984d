"""Promise 5: compare."""

import itertools
import unittest

from widetexts.chars import compare

ZEROS = [0x30, 0x660, 0x6F0, 0x966, 0xFF10]

# Equal by sense, and unlike in their characters: 0 and 2 in two scripts, s in three forms, and a letter beside them.
SMALL_ALPHABET = [0x30, 0x32, 0x660, 0x662, 0x73, 0x53, 0x17F, 0x62]


def chars_of(text):
    return [ord(sign) for sign in text]


def value_by_words(c):
    for zero in ZEROS:
        if zero <= c <= zero + 9:
            return c - zero
    return None


def small_by_words(c):
    return {0x53: 0x73, 0x17F: 0x73}.get(c, c)


def sense_by_words(text):
    """Numbers as (0, number), other characters as (1, small letter): lists of these have the order by sense."""
    sense = []
    in_row = False
    for c in text:
        value = value_by_words(c)
        if value is None:
            sense.append((1, small_by_words(c)))
        elif in_row:
            sense[-1] = (0, sense[-1][1] * 10 + value)
        else:
            sense.append((0, value))
        in_row = value is not None
    return sense


def order_by_words(a, b):
    x = (sense_by_words(a), a)
    y = (sense_by_words(b), b)
    return (x > y) - (x < y)


class CompareTest(unittest.TestCase):
    def check(self, a, b, answer):
        """Both ways round, as the one must be the opposite of the other."""
        if isinstance(a, str):
            a = chars_of(a)
            b = chars_of(b)
        self.assertEqual(compare(a, b), [answer], f"{a[:20]} and {b[:20]}")
        self.assertEqual(compare(b, a), [-answer], f"{b[:20]} and {a[:20]}")

    def test_empty_texts(self):
        self.check("", "", 0)
        for text in ("a", "0", "A", " ", "\0", "12"):
            self.check("", text, -1)
        self.check([], [4294967295], -1)

    def test_one_is_the_front_of_the_other(self):
        self.check("ab", "abc", -1)
        self.check("ab", "ABC", -1)
        self.check("AB", "abc", -1)
        self.check("a", "a0", -1)
        self.check("a1", "a1b", -1)
        self.check("a1", "a12", -1)

    def test_the_same(self):
        for text in ("a", "abc", "a1b22c333", "007", "\u0661\u0662", "Abc"):
            self.check(text, text, 0)

    def test_first_difference_counts(self):
        self.check("abz", "aca", -1)
        self.check("a1z", "a2a", -1)
        self.check("file9", "file10", -1)
        self.check("file10b2", "file10a10", 1)
        self.check("x2y3", "x2y20", -1)

    def test_rows_of_unequal_length(self):
        self.check("9", "10", -1)
        self.check("99", "100", -1)
        self.check("19", "2", 1)
        self.check("12", "13", -1)
        self.check("21", "12", 1)

    def test_zeros_ahead(self):
        self.check("0", "7", -1)
        self.check("0", "007", -1)
        self.check("000", "1", -1)
        self.check("007", "8", -1)
        self.check("007", "6", 1)
        self.check("0010", "9", 1)
        self.check("100", "0020", 1)

    def test_one_number_and_nothing_following(self):
        self.check("7", "007", 1)
        self.check("0", "00", -1)
        self.check("00", "000", -1)
        self.check("07", "007", 1)
        self.check("01", "0\u0661", -1)
        self.check("7", "\u0667", -1)
        self.check("00\u0667", "7", -1)
        self.check("\u06607", "7", 1)

    def test_one_number_and_what_follows_decides(self):
        self.check("7b", "007a", 1)
        self.check("7a", "007b", -1)
        self.check("7", "007a", -1)
        self.check("7a", "007", 1)
        self.check("0a1", "000a2", -1)
        self.check("\u0667a", "7b", -1)
        self.check("7a", "\u0667B", -1)
        self.check("1x2y", "01x3", -1)

    def test_digits_of_every_script(self):
        for zero, other in itertools.product(ZEROS, ZEROS):
            self.check([zero + 9], [other + 1, other], -1)
            self.check([zero + 3, 0x62], [other + 3, 0x61], 1)
            self.check([zero, zero, zero + 5], [other + 6], -1)

    def test_scripts_mixed_within_a_row(self):
        self.check([0x31, 0x662, 0x6F3], [0x661, 0x32, 0x34], -1)
        self.check([0xFF11, 0x966, 0x30], [0x39, 0x669], 1)
        self.check([0x30, 0x660, 0x35, 0x61], [0xFF15, 0x62], -1)
        self.check([0x31, 0x662], [0x661, 0x32], -1)

    def test_a_digit_comes_ahead_of_any_other_character(self):
        for c in (0x0, 0x20, 0x2F, 0x3A, 0x41, 0x61, 0x301, 0x4E00, 0xD800, 0x110000, 4294967295):
            for zero in ZEROS:
                self.check([zero], [c], -1)
                self.check([0x61, zero + 9], [0x61, c], -1)
        self.check("12", "1a", 1)
        self.check("1a", "12", -1)
        self.check("2", " 1", -1)

    def test_small_and_capital_with_the_rest_deciding(self):
        self.check("Ab", "aa", 1)
        self.check("aB", "Ac", -1)
        self.check("A", "b", -1)
        self.check("a", "B", -1)
        self.check("_", "a", -1)
        self.check("_", "A", -1)
        self.check([0x391, 0x3B2], [0x3B1, 0x391], 1)
        self.check([0x40F, 0x430], [0x45F, 0x411], -1)

    def test_small_and_capital_and_nothing_else(self):
        self.check("A", "a", -1)
        self.check("aBc", "abC", -1)
        self.check("ABC", "abc", -1)
        self.check([0x178], [0xFF], 1)
        self.check([0xFF21], [0xFF41], -1)

    def test_letters_that_share_a_small_letter(self):
        self.check([0x17F], [0x73], 1)
        self.check([0x17F], [0x53], 1)
        self.check([0x17F, 0x61], [0x73, 0x62], -1)
        self.check([0x17F], [0x74], -1)
        self.check([0x17F], [0x72], 1)
        self.check([0x212A], [0x6B], 1)
        self.check([0x212A], [0x4B], 1)
        self.check([0x212A, 0x61], [0x6B, 0x62], -1)
        self.check([0x212A], [0x6C], -1)
        self.check([0x212A], [0x6A], 1)
        self.check([0x3C2], [0x3C3], -1)
        self.check([0x3C2], [0x3A3], 1)
        self.check([0x3C2, 0x62], [0x3C3, 0x61], 1)
        self.check([0x3C2, 0x61], [0x3A3, 0x62], -1)
        self.check([0x3C2], [0x3C1], 1)
        self.check([0x3C2], [0x3C4], -1)

    def test_great_characters(self):
        self.check([0x80000000], [0x7FFFFFFF], 1)
        self.check([0x80000000], [0x61], 1)
        self.check([0x80000000], [0x80000001], -1)
        self.check([4294967295], [4294967294], 1)
        self.check([4294967295], [4294967295], 0)
        self.check([4294967295, 0x41], [4294967295, 0x62], -1)
        self.check([0x80000030], [0x30], 1)

    def test_rows_of_30000_digits(self):
        nines = [0x39] * 30000
        self.check(nines, list(nines), 0)
        self.check(nines, nines[:-1] + [0x38], 1)
        self.check(nines, nines[:-1], 1)
        self.check([0x38] + nines[1:], nines, -1)
        self.check([0x669] * 30000, nines, 1)
        self.check([0x30] * 29999 + [0x31], [0x32], -1)
        self.check([0x30] * 29999 + [0x31], [0x31], -1)
        self.check([0x30] * 30000, [0x30] * 29999, 1)

    def test_long_texts(self):
        self.check([0x61] * 30000, [0x41] * 30000, 1)
        self.check([0x61] * 29999 + [0x62], [0x41] * 30000, 1)
        self.check([0x61, 0x31] * 15000, [0x41, 0x661] * 15000, 1)

    def test_short_texts_by_the_words(self):
        texts = [list(text) for size in range(4) for text in itertools.product(SMALL_ALPHABET, repeat=size)]
        for a, b in itertools.product(texts, texts):
            if compare(a, b) != [order_by_words(a, b)]:
                self.fail(f"{a} and {b}")


if __name__ == "__main__":
    unittest.main()
