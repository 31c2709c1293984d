"""Promise 2: fold and upper."""

import unittest

from widetexts.chars import fold, upper

# (first, last, small letter of the first, small letter of the last)
FOLD_STRETCHES = [
    (0x41, 0x5A, 0x61, 0x7A),
    (0xC0, 0xDE, 0xE0, 0xFE),
    (0x391, 0x3A9, 0x3B1, 0x3C9),
    (0x410, 0x42F, 0x430, 0x44F),
    (0xFF21, 0xFF3A, 0xFF41, 0xFF5A),
    (0x400, 0x40F, 0x450, 0x45F),
]
FOLD_SINGLES = {0x178: 0xFF, 0x17F: 0x73, 0x212A: 0x6B, 0x3C2: 0x3C3}
# Right before and right behind the stretches and the single ones, where no other stretch stands.
FOLD_NEIGHBOURS = [
    0x40, 0x5B, 0xBF, 0xDF, 0x390, 0x3AA, 0x430, 0xFF20, 0xFF3B, 0x3FF,
    0x177, 0x179, 0x17E, 0x180, 0x2129, 0x212B, 0x3C1, 0x3C3,
]

# (first, last, capital of the first, capital of the last)
UPPER_STRETCHES = [
    (0x61, 0x7A, 0x41, 0x5A),
    (0xE0, 0xFE, 0xC0, 0xDE),
    (0x3B1, 0x3C9, 0x391, 0x3A9),
    (0x430, 0x44F, 0x410, 0x42F),
    (0xFF41, 0xFF5A, 0xFF21, 0xFF3A),
    (0x450, 0x45F, 0x400, 0x40F),
]
UPPER_SINGLES = {0xFF: 0x178, 0x17F: 0x53, 0x3C2: 0x3A3}
UPPER_NEIGHBOURS = [
    0x60, 0x7B, 0xDF, 0x100, 0x3B0, 0x3CA, 0x42F, 0x460, 0xFF40, 0xFF5B, 0x17E, 0x180,
]

CASELESS = [
    0x0, 0x20, 0x30, 0x300, 0x5D0, 0x4E00, 0xAC00, 0xD7FF, 0xD800, 0xDABC, 0xDFFF, 0xE000,
    0x10400, 0x10FFFF, 0x110000, 0x110041, 0x110061, 0x10000 * 0x41 + 0x41, 4294967295,
]


def fold_by_words(c):
    if (0x41 <= c <= 0x5A or (0xC0 <= c <= 0xDE and c != 0xD7) or (0x391 <= c <= 0x3A9 and c != 0x3A2)
            or 0x410 <= c <= 0x42F or 0xFF21 <= c <= 0xFF3A):
        return c + 0x20
    if 0x400 <= c <= 0x40F:
        return c + 0x50
    return FOLD_SINGLES.get(c, c)


def upper_by_words(c):
    if (0x61 <= c <= 0x7A or (0xE0 <= c <= 0xFE and c != 0xF7) or (0x3B1 <= c <= 0x3C9 and c != 0x3C2)
            or 0x430 <= c <= 0x44F or 0xFF41 <= c <= 0xFF5A):
        return c - 0x20
    if 0x450 <= c <= 0x45F:
        return c - 0x50
    return UPPER_SINGLES.get(c, c)


class CaseChecks:
    """What both calls are asked; the classes below say of which call, and with what."""

    def check(self, c, answer):
        self.assertEqual(self.ask(c), [answer], f"of 0x{c:X}")

    def test_ends_of_each_stretch(self):
        for first, last, of_first, of_last in self.stretches:
            self.check(first, of_first)
            self.check(last, of_last)

    def test_single_ones(self):
        for c, answer in self.singles.items():
            self.check(c, answer)

    def test_right_before_and_right_behind(self):
        for c in self.neighbours:
            self.check(c, c)

    def test_what_has_no_case_is_itself(self):
        for c in CASELESS:
            self.check(c, c)

    def test_every_character_by_the_words(self):
        wrong = [hex(c) for c in range(0x110200) if self.ask(c) != [self.by_words(c)]]
        self.assertEqual(wrong, [])


class FoldTest(CaseChecks, unittest.TestCase):
    ask = staticmethod(fold)
    by_words = staticmethod(fold_by_words)
    stretches = FOLD_STRETCHES
    singles = FOLD_SINGLES
    neighbours = FOLD_NEIGHBOURS

    def test_taken_out(self):
        for c in (0xD7, 0xF7, 0x3A2):
            self.check(c, c)
        for c in (0xD6, 0xD8, 0x3A1, 0x3A3):
            self.check(c, c + 0x20)

    def test_two_stretches_side_by_side(self):
        self.check(0x40F, 0x45F)
        self.check(0x410, 0x430)

    def test_small_letters_stay(self):
        for c in (0x61, 0x7A, 0xE0, 0xFE, 0xFF, 0x3B1, 0x3C9, 0x430, 0x44F, 0x450, 0x45F, 0xFF41, 0xFF5A):
            self.check(c, c)


class UpperTest(CaseChecks, unittest.TestCase):
    ask = staticmethod(upper)
    by_words = staticmethod(upper_by_words)
    stretches = UPPER_STRETCHES
    singles = UPPER_SINGLES
    neighbours = UPPER_NEIGHBOURS

    def test_taken_out(self):
        for c in (0xD7, 0xF7, 0x3A2):
            self.check(c, c)
        for c in (0xF6, 0xF8, 0x3C1, 0x3C3):
            self.check(c, c - 0x20)

    def test_two_stretches_side_by_side(self):
        self.check(0x44F, 0x42F)
        self.check(0x450, 0x400)

    def test_capitals_stay(self):
        for c in (0x41, 0x5A, 0xC0, 0xDE, 0x178, 0x212A, 0x391, 0x3A9, 0x400, 0x40F, 0x410, 0x42F, 0xFF21, 0xFF3A):
            self.check(c, c)


if __name__ == "__main__":
    unittest.main()
