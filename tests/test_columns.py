"""Promise 4: columns."""

import unittest

from widetexts.chars import columns

# (first, last, columns, columns right before, columns right behind); None where no character stands there.
STRETCHES = [
    (0x0, 0x1F, -1, None, 1),
    (0x7F, 0x9F, -1, 1, 1),
    (0x9, 0xD, -1, -1, -1),
    (0x85, 0x85, -1, -1, -1),
    (0xD800, 0xDFFF, -1, 1, 1),
    (0x110000, 0xFFFFFFFF, -1, 1, None),
    (0x300, 0x36F, 0, 1, 1),
    (0x200B, 0x200D, 0, 1, 1),
    (0xFE00, 0xFE0F, 0, 1, 1),
    (0x1100, 0x115F, 2, 1, 1),
    (0x2E80, 0x303E, 2, 1, 1),
    (0x3041, 0x4DBF, 2, 1, 1),
    (0x4E00, 0x9FFF, 2, 1, 1),
    (0xAC00, 0xD7A3, 2, 1, 1),
    (0xF900, 0xFAFF, 2, 1, 1),
    (0xFF01, 0xFF60, 2, 1, 1),
    (0xFFE0, 0xFFE6, 2, 1, 1),
    (0x1F300, 0x1F64F, 2, 1, 1),
    (0x20000, 0x3FFFD, 2, 1, 1),
]


def columns_by_words(c):
    if c <= 0x1F or 0x7F <= c <= 0x9F or 0xD800 <= c <= 0xDFFF or c >= 0x110000:
        return -1
    if 0x300 <= c <= 0x36F or 0x200B <= c <= 0x200D or 0xFE00 <= c <= 0xFE0F:
        return 0
    if (0x1100 <= c <= 0x115F or 0x2E80 <= c <= 0x303E or 0x3041 <= c <= 0x4DBF or 0x4E00 <= c <= 0x9FFF
            or 0xAC00 <= c <= 0xD7A3 or 0xF900 <= c <= 0xFAFF or 0xFF01 <= c <= 0xFF60 or 0xFFE0 <= c <= 0xFFE6
            or 0x1F300 <= c <= 0x1F64F or 0x20000 <= c <= 0x3FFFD):
        return 2
    return 1


class ColumnsTest(unittest.TestCase):
    def check(self, c, answer):
        self.assertEqual(columns(c), [answer], f"columns(0x{c:X})")

    def test_ends_of_each_stretch(self):
        for first, last, answer, _, _ in STRETCHES:
            self.check(first, answer)
            self.check(last, answer)

    def test_right_before_and_right_behind_each_stretch(self):
        for first, last, _, before, behind in STRETCHES:
            if before is not None:
                self.check(first - 1, before)
            if behind is not None:
                self.check(last + 1, behind)

    def test_some_blanks_are_minus_one_all_the_same(self):
        for c in (0x9, 0xA, 0xB, 0xC, 0xD, 0x85):
            self.check(c, -1)

    def test_the_other_blanks_have_columns(self):
        for c in (0x20, 0xA0, 0x2000, 0x200A, 0x2028, 0x2029, 0x202F):
            self.check(c, 1)
        self.check(0x3000, 2)

    def test_ends_of_what_is_minus_one(self):
        for c in (0x0, 0x1F, 0x7F, 0x9F, 0xD800, 0xDABC, 0xDFFF, 0x110000, 0x7FFFFFFF, 0x80000000, 4294967295):
            self.check(c, -1)
        for c in (0x20, 0x7E, 0xA0, 0xD7FF, 0xE000, 0x10FFFF):
            self.check(c, 1)

    def test_what_lies_between_two_wide_stretches(self):
        for c in (0x303F, 0x3040, 0x3FFFE, 0x3FFFF):
            self.check(c, 1)
        for c in range(0x4DC0, 0x4E00):
            self.check(c, 1)

    def test_every_character_by_the_words(self):
        wrong = [hex(c) for c in range(0x110200) if columns(c) != [columns_by_words(c)]]
        self.assertEqual(wrong, [])


if __name__ == "__main__":
    unittest.main()
