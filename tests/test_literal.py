"""Promise 10: literal."""

import itertools
import unittest

from widetexts.chars import literal

MOST = 4294967295
NO_CHARACTERS = [0xD800, 0xDABC, 0xDFFF, 0x110000, 0x110041, 0x7FFFFFFF, 0x80000000, MOST]

# One character of each size, with its bytes.
SIZES = [
    (0x61, b"a"),
    (0x0A, b"\\n"),
    (0x1B, b"\\033"),
    (0xE9, b"\\u00E9"),
    (0x1F600, b"\\U0001F600"),
]

LETTERS = {0x22: '"', 0x5C: "\\", 0x7: "a", 0x8: "b", 0x9: "t", 0xA: "n", 0xB: "v", 0xC: "f", 0xD: "r"}


def chars_of(text):
    return [ord(sign) for sign in text]


def bytes_by_words(c):
    if c in LETTERS:
        return ("\\" + LETTERS[c]).encode()
    if 0x20 <= c <= 0x7E:
        return bytes([c])
    if c < 0x80:
        return b"\\%03o" % c
    if c < 0x10000:
        return b"\\u%04X" % c
    return b"\\U%08X" % c


def is_none(c):
    return 0xD800 <= c <= 0xDFFF or c >= 0x110000


def literal_by_words(most, text):
    octets = b"".join(bytes_by_words(c) for c in text)
    if any(is_none(c) for c in text) or len(octets) > most:
        return [-1]
    return [len(octets), *octets]


class LiteralTest(unittest.TestCase):
    def check(self, text, octets):
        if isinstance(text, str):
            text = chars_of(text)
        answer = [len(octets), *octets]
        self.assertEqual(literal(MOST, text), answer, f"{text[:20]}")
        self.assertEqual(literal(len(octets), text), answer, f"{text[:20]}")

    def refused(self, most, text):
        self.assertEqual(literal(most, text), [-1], f"{most} and {text[:20]}")

    def test_the_empty_text(self):
        for most in (0, 1, MOST):
            self.assertEqual(literal(most, []), [0])

    def test_letters_behind_a_backslash(self):
        self.check([0x22], b'\\"')
        self.check([0x5C], b"\\\\")
        self.check([0x7, 0x8, 0x9, 0xA, 0xB, 0xC, 0xD], b"\\a\\b\\t\\n\\v\\f\\r")

    def test_as_they_are(self):
        plain = [c for c in range(0x20, 0x7F) if c not in (0x22, 0x5C)]
        self.check(plain, bytes(plain))
        self.check("it's", b"it's")
        self.check("??=", b"??=")
        self.check([0x20], b" ")
        self.check([0x7E], b"~")

    def test_octal(self):
        self.check([0x0], b"\\000")
        self.check([0x1], b"\\001")
        self.check([0x6], b"\\006")
        self.check([0xE], b"\\016")
        self.check([0x1F], b"\\037")
        self.check([0x7F], b"\\177")

    def test_octal_ahead_of_a_digit(self):
        self.check([0x0, 0x31], b"\\0001")
        self.check([0x1, 0x37, 0x37], b"\\00177")
        self.check([0x1B, 0x30], b"\\0330")
        self.check([0x0, 0x0], b"\\000\\000")

    def test_four_digits(self):
        self.check([0x80], b"\\u0080")
        self.check([0xFF], b"\\u00FF")
        self.check([0x100], b"\\u0100")
        self.check([0xABC], b"\\u0ABC")
        self.check([0xABCD], b"\\uABCD")
        self.check([0xCDEF], b"\\uCDEF")
        self.check([0xD7FF], b"\\uD7FF")
        self.check([0xE000], b"\\uE000")
        self.check([0xFFFF], b"\\uFFFF")

    def test_eight_digits(self):
        self.check([0x10000], b"\\U00010000")
        self.check([0x1ABCD], b"\\U0001ABCD")
        self.check([0xFEDCB], b"\\U000FEDCB")
        self.check([0x10FFFF], b"\\U0010FFFF")

    def test_mixed(self):
        self.check('say "h\u00e9"\n', b'say \\"h\\u00E9\\"\\n')
        self.check("a\\b", b"a\\\\b")
        self.check("\U0001F600\x00\x7f~", b"\\U0001F600\\000\\177~")

    def test_no_characters(self):
        for none in NO_CHARACTERS:
            self.refused(MOST, [none])
            self.refused(MOST, [none, 0x61])
            self.refused(MOST, [0x61, none, 0x61])
            self.refused(MOST, [0x61, 0xA, none])
            self.refused(0, [none])

    def test_no_character_behind_what_is_more_than_most(self):
        for none in NO_CHARACTERS:
            self.refused(1, [0x61, 0x61, none])
            self.refused(0, [0x61, none])

    def test_as_many_as_most_with_each_size_at_the_end(self):
        for c, own in SIZES:
            for ahead, octets_ahead in [([], b""), ([0x61, 0x0], b"a\\000"), ([0x10FFFF], b"\\U0010FFFF")]:
                text = ahead + [c]
                octets = octets_ahead + own
                self.check(text, octets)
                self.assertEqual(literal(len(octets) + 1, text), [len(octets), *octets])
                for most in range(len(octets)):
                    self.refused(most, text)

    def test_long_texts(self):
        self.check([0x10FFFF] * 30000, b"\\U0010FFFF" * 30000)
        self.refused(299999, [0x10FFFF] * 30000)
        self.refused(MOST, [0x10FFFF] * 29999 + [0x110000])
        self.check([0x61] * 30000, b"a" * 30000)
        self.refused(29999, [0x61] * 30000)

    def test_every_character_by_the_words(self):
        wrong = [hex(c) for c in range(0x110200) if literal(10, [c]) != literal_by_words(10, [c])]
        self.assertEqual(wrong, [])

    def test_short_texts_by_the_words(self):
        some = [c for c, _ in SIZES] + [0x22, 0x37, 0x7F, 0xD800, 0x110000]
        for size in range(4):
            for text in map(list, itertools.product(some, repeat=size)):
                for most in (0, 1, 2, 3, 5, 8, 11, 20, 30, MOST):
                    self.assertEqual(literal(most, text), literal_by_words(most, text), f"{most} and {text}")


if __name__ == "__main__":
    unittest.main()
