"""Promise 1: class_of."""

import unittest

from widetexts.chars import class_of

# (first, last, class, class right before, class right behind); None where no character stands there.
STRETCHES = [
    (0xD800, 0xDFFF, 7, 0, 0),
    (0x110000, 0xFFFFFFFF, 7, 0, None),
    (0x9, 0xD, 3, 4, 4),
    (0x20, 0x20, 3, 4, 6),
    (0x85, 0x85, 3, 4, 4),
    (0xA0, 0xA0, 3, 4, 0),
    (0x2000, 0x200A, 3, 0, 0),
    (0x2028, 0x2028, 3, 0, 3),
    (0x2029, 0x2029, 3, 3, 0),
    (0x202F, 0x202F, 3, 0, 0),
    (0x3000, 0x3000, 3, 0, 0),
    (0x0, 0x1F, 4, None, 3),
    (0x7F, 0x9F, 4, 6, 3),
    (0x30, 0x39, 2, 6, 6),
    (0x660, 0x669, 2, 0, 0),
    (0x6F0, 0x6F9, 2, 0, 0),
    (0x966, 0x96F, 2, 0, 0),
    (0xFF10, 0xFF19, 2, 0, 0),
    (0x41, 0x5A, 1, 6, 6),
    (0x61, 0x7A, 1, 6, 6),
    (0xC0, 0xFF, 1, 0, 0),
    (0x178, 0x178, 1, 0, 0),
    (0x17F, 0x17F, 1, 0, 0),
    (0x391, 0x3A9, 1, 0, 0),
    (0x3B1, 0x3C9, 1, 0, 0),
    (0x400, 0x45F, 1, 0, 0),
    (0x5D0, 0x5EA, 1, 0, 0),
    (0x4E00, 0x9FFF, 1, 0, 0),
    (0xAC00, 0xD7A3, 1, 0, 0),
    (0xFF21, 0xFF3A, 1, 0, 0),
    (0xFF41, 0xFF5A, 1, 0, 0),
    (0x212A, 0x212A, 1, 0, 0),
    (0x300, 0x36F, 5, 0, 0),
    (0x21, 0x2F, 6, 3, 2),
    (0x3A, 0x40, 6, 2, 1),
    (0x5B, 0x60, 6, 1, 1),
    (0x7B, 0x7E, 6, 1, 4),
]

# The words of the promise, in its order: the first that names a character counts.
WORDS = [
    (7, "D800 to DFFF, 110000 to 1101FF"),
    (3, "9 to D, 20, 85, A0, 2000 to 200A, 2028, 2029, 202F, 3000"),
    (4, "0 to 1F, 7F to 9F"),
    (2, "30 to 39, 660 to 669, 6F0 to 6F9, 966 to 96F, FF10 to FF19"),
    (1, "41 to 5A, 61 to 7A, C0 to FF but D7 but F7, 178, 17F, 391 to 3A9 but 3A2, 3B1 to 3C9, 400 to 45F, "
        "5D0 to 5EA, 4E00 to 9FFF, AC00 to D7A3, FF21 to FF3A, FF41 to FF5A, 212A"),
    (5, "300 to 36F"),
    (6, "21 to 2F, 3A to 40, 5B to 60, 7B to 7E"),
]


def named_by(words):
    """The characters that words such as '391 to 3A9 but 3A2, 400' name."""
    named = []
    for part in words.split(", "):
        stretch, *left_out = part.split(" but ")
        ends = [int(end, 16) for end in stretch.split(" to ")]
        left_out = [int(one, 16) for one in left_out]
        named.extend(c for c in range(ends[0], ends[-1] + 1) if c not in left_out)
    return named


def classes_by_words():
    classes = {}
    for number, words in WORDS:
        for c in named_by(words):
            classes.setdefault(c, number)
    return classes


class ClassTest(unittest.TestCase):
    def check(self, c, number):
        self.assertEqual(class_of(c), [number], f"class_of(0x{c:X})")

    def test_ends_of_each_stretch(self):
        for first, last, number, _, _ in STRETCHES:
            self.check(first, number)
            self.check(last, number)

    def test_right_before_and_right_behind_each_stretch(self):
        for first, last, _, before, behind in STRETCHES:
            if before is not None:
                self.check(first - 1, before)
            if behind is not None:
                self.check(last + 1, behind)

    def test_characters_taken_out(self):
        for c in (0xD7, 0xF7, 0x3A2):
            self.check(c - 1, 1)
            self.check(c, 0)
            self.check(c + 1, 1)

    def test_final_sigma_is_a_letter(self):
        self.check(0x3C2, 1)

    def test_blanks_are_no_controls(self):
        for c in (0x9, 0xA, 0xB, 0xC, 0xD, 0x20, 0x85, 0xA0):
            self.check(c, 3)

    def test_all_digits(self):
        for zero in (0x30, 0x660, 0x6F0, 0x966, 0xFF10):
            for value in range(10):
                self.check(zero + value, 2)

    def test_far_ends(self):
        for c, number in ((0, 4), (0x10FFFF, 0)):
            self.check(c, number)
        for c in (0xD800, 0xDABC, 0xDFFF, 0x110000, 0x110041, 0x7FFFFFFF, 0x80000000, 4294967295):
            self.check(c, 7)

    def test_every_character_by_the_words(self):
        classes = classes_by_words()
        wrong = [hex(c) for c in range(0x110200) if class_of(c) != [classes.get(c, 0)]]
        self.assertEqual(wrong, [])


if __name__ == "__main__":
    unittest.main()
