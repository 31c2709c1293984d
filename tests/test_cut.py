"""Promise 8: cut."""

import itertools
import unittest

from widetexts.chars import columns, cut

LEAST = -2147483648
MOST = 2147483647

WIDE = 0x4E00
PLAIN = 0x61
MARK = 0x301
CONTROL = 0x9


def cut_by_words(most, text):
    """The longest front of the text that may stand, found by asking each front."""
    best = [0, 0]
    for size in range(len(text) + 1):
        each = [columns(c)[0] for c in text[:size]]
        if -1 not in each and sum(each) <= most:
            best = [sum(each), size]
    return best


class CutTest(unittest.TestCase):
    def check(self, most, text, answer):
        self.assertEqual(cut(most, text), answer, f"{most} and {text[:20]}")

    def test_the_empty_text(self):
        for most in (LEAST, -1, 0, 1, 80, MOST):
            self.check(most, [], [0, 0])

    def test_columns_below_zero(self):
        for most in (LEAST, LEAST + 1, -2, -1):
            for text in ([PLAIN], [WIDE], [MARK], [MARK, MARK], [CONTROL], [PLAIN] * 10):
                self.check(most, text, [0, 0])

    def test_no_columns(self):
        self.check(0, [PLAIN], [0, 0])
        self.check(0, [WIDE], [0, 0])
        self.check(0, [MARK], [0, 1])
        self.check(0, [MARK, 0x200B, 0xFE0F], [0, 3])
        self.check(0, [MARK, MARK, PLAIN, MARK], [0, 2])
        self.check(0, [CONTROL], [0, 0])
        self.check(0, [MARK, CONTROL], [0, 1])

    def test_one_column(self):
        self.check(1, [PLAIN], [1, 1])
        self.check(1, [PLAIN, PLAIN], [1, 1])
        self.check(1, [WIDE], [0, 0])
        self.check(1, [MARK, WIDE, PLAIN], [0, 1])

    def test_exactly_one_more_and_one_less(self):
        text = [PLAIN, WIDE, MARK, PLAIN]
        self.check(4, text, [4, 4])
        self.check(5, text, [4, 4])
        self.check(3, text, [3, 3])
        self.check(2, text, [1, 1])
        self.check(1, text, [1, 1])

    def test_two_columns_with_one_left(self):
        self.check(2, [PLAIN, WIDE, PLAIN], [1, 1])
        self.check(3, [WIDE, WIDE], [2, 1])
        self.check(3, [WIDE, WIDE, PLAIN], [2, 1])
        self.check(3, [WIDE, MARK, WIDE], [2, 2])

    def test_characters_of_no_columns(self):
        self.check(2, [PLAIN, PLAIN, MARK, MARK], [2, 4])
        self.check(1, [PLAIN, MARK, PLAIN, MARK], [1, 2])
        self.check(2, [MARK, WIDE, MARK], [2, 3])
        self.check(1, [MARK, MARK, PLAIN], [1, 3])

    def test_what_has_minus_one(self):
        for none in (0x0, 0x9, 0xA, 0x1F, 0x7F, 0x85, 0x9F, 0xD800, 0xDFFF, 0x110000, 0x80000000, 4294967295):
            self.check(10, [none, PLAIN], [0, 0])
            self.check(10, [PLAIN, none, PLAIN], [1, 1])
            self.check(2, [PLAIN, PLAIN, none], [2, 2])
            self.check(2, [PLAIN, PLAIN, none, MARK], [2, 2])
            self.check(2, [PLAIN, PLAIN, MARK, none, MARK], [2, 3])
            self.check(MOST, [WIDE, none], [2, 1])
            self.check(0, [none], [0, 0])
            self.check(-1, [none], [0, 0])

    def test_least_and_greatest(self):
        self.check(LEAST, [PLAIN, WIDE], [0, 0])
        self.check(MOST, [PLAIN, WIDE, MARK], [3, 3])
        self.check(MOST, [WIDE] * 30000, [60000, 30000])

    def test_long_texts(self):
        self.check(30000, [WIDE] * 30000, [30000, 15000])
        self.check(29999, [WIDE] * 30000, [29998, 14999])
        self.check(29999, [PLAIN] * 30000, [29999, 29999])
        self.check(0, [MARK] * 30000, [0, 30000])
        self.check(1, [MARK] * 29999 + [PLAIN], [1, 30000])

    def test_short_texts_by_the_words(self):
        for size in range(5):
            for text in itertools.product([PLAIN, WIDE, MARK, CONTROL, 0xD800], repeat=size):
                for most in range(-2, 10):
                    self.check(most, list(text), cut_by_words(most, list(text)))


if __name__ == "__main__":
    unittest.main()
