"""Promise 11: unliteral."""

import itertools
import re
import unittest

from widetexts.chars import literal, unliteral

MOST = 4294967295

LETTERS = {
    '"': 0x22, "'": 0x27, "?": 0x3F, "\\": 0x5C,
    "a": 0x7, "b": 0x8, "t": 0x9, "n": 0xA, "v": 0xB, "f": 0xC, "r": 0xD,
}

# Each length of what stands for one character, with the character.
WHOLE = [
    (b"a", 0x61),
    (b"\\n", 0xA),
    (b"\\7", 0x7),
    (b"\\17", 0xF),
    (b"\\177", 0x7F),
    (b"\\xA", 0xA),
    (b"\\xe9", 0xE9),
    (b"\\x1f600", 0x1F600),
    (b"\\x0010FFFF", 0x10FFFF),
    (b"\\u00E9", 0xE9),
    (b"\\U0001F600", 0x1F600),
]

FAULTS = [
    b"\"", b"\x00", b"\n", b"\x1f", b"\x7f", b"\x80", b"\xff",
    b"\\", b"\\8", b"\\q", b"\\N", b"\\X41", b"\\\xff", b"\\\x00",
    b"\\x", b"\\xg", b"\\xD800", b"\\xDFFF", b"\\x110000", b"\\xFFFFFFFF",
    b"\\u", b"\\u1", b"\\u123", b"\\u123g", b"\\uD800", b"\\udfff",
    b"\\U", b"\\U0001F60", b"\\U0001F60g", b"\\U00110000", b"\\UFFFFFFFF", b"\\U0000D800",
]

PIECE = re.compile(
    rb"""[ !#-\[\]-~]|\\(?:["'?\\abtnvfr]|[0-7]{1,3}|x[0-9A-Fa-f]{1,8}|u[0-9A-Fa-f]{4}|U[0-9A-Fa-f]{8})"""
)


def value_by_words(piece):
    if piece[:1] != b"\\":
        return piece[0]
    if chr(piece[1]) in LETTERS:
        return LETTERS[chr(piece[1])]
    if piece[1:2] in (b"x", b"u", b"U"):
        return int(piece[2:], 16)
    return int(piece[1:], 8)


def unliteral_by_words(most, octets):
    octets = bytes(octets)
    text = []
    place = 0
    while place < len(octets):
        fitting = PIECE.match(octets, place)
        value = value_by_words(fitting.group()) if fitting else MOST
        if 0xD800 <= value <= 0xDFFF or value >= 0x110000:
            return [-1, place]
        text.append(value)
        place = fitting.end()
    return [len(text), *text] if len(text) <= most else [-1, len(octets)]


class UnliteralChecks(unittest.TestCase):
    def reads(self, octets, text):
        """With room enough, with just as much as is needed, and refused at the end with one less."""
        answer = [len(text), *text]
        self.assertEqual(unliteral(MOST, list(octets)), answer, octets[:40])
        self.assertEqual(unliteral(len(text), list(octets)), answer, octets[:40])
        if text:
            self.assertEqual(unliteral(len(text) - 1, list(octets)), [-1, len(octets)], octets[:40])

    def refused(self, octets, place):
        """Whatever most is: a fault is told ahead of what is too much."""
        for most in (0, 1, 2, MOST):
            self.assertEqual(unliteral(most, list(octets)), [-1, place], f"{most} and {octets[:40]}")

    def as_words_say(self, most, octets):
        self.assertEqual(unliteral(most, list(octets)), unliteral_by_words(most, octets), f"{most} and {octets[:40]}")


class PlainTest(UnliteralChecks):
    def test_no_bytes(self):
        for most in (0, 1, MOST):
            self.assertEqual(unliteral(most, []), [0])

    def test_each_byte_alone(self):
        for octet in range(256):
            if 0x20 <= octet <= 0x7E and octet not in (0x22, 0x5C):
                self.reads(bytes([octet]), [octet])
            else:
                self.refused(bytes([octet]), 0)

    def test_ordinary(self):
        self.reads(b"hello", [0x68, 0x65, 0x6C, 0x6C, 0x6F])
        self.reads(b"it's?", [0x69, 0x74, 0x27, 0x73, 0x3F])
        self.reads(b'a\\"b\\n', [0x61, 0x22, 0x62, 0xA])
        self.reads(b"xuU012", [0x78, 0x75, 0x55, 0x30, 0x31, 0x32])

    def test_quotation_mark_without_backslash(self):
        self.refused(b'"', 0)
        self.refused(b'ab"', 2)
        self.refused(b'\\""', 2)


class LetterTest(UnliteralChecks):
    def test_each_letter(self):
        for letter, c in LETTERS.items():
            octets = b"\\" + letter.encode()
            self.reads(octets, [c])
            self.reads(octets + b"0", [c, 0x30])
            self.reads(b"x" + octets + octets, [0x78, c, c])

    def test_each_byte_behind_a_backslash(self):
        starts = {ord(letter) for letter in LETTERS} | set(b"01234567")
        for octet in range(256):
            octets = bytes([0x5C, octet])
            if octet in starts:
                self.assertEqual(unliteral(MOST, list(octets))[0], 1)
            else:
                self.refused(octets, 0)
            self.as_words_say(MOST, octets)

    def test_each_byte_behind_a_backslash_with_digits_behind(self):
        starts = {ord(letter) for letter in LETTERS} | set(b"01234567xuU")
        for octet in range(256):
            octets = bytes([0x5C, octet]) + b"00000041"
            if octet in starts:
                self.assertGreater(unliteral(MOST, list(octets))[0], 0)
            else:
                self.refused(octets, 0)
            self.as_words_say(MOST, octets)

    def test_no_other_letter(self):
        for letter in b"cdeghijklmopqswyzABFNRTVX89":
            self.refused(bytes([0x5C, letter]), 0)

    def test_backslash_at_the_end(self):
        self.refused(b"\\", 0)
        self.refused(b"ab\\", 2)
        self.refused(b"\\\\\\", 2)
        self.reads(b"\\\\", [0x5C])
        self.reads(b"\\\\n", [0x5C, 0x6E])


class OctalTest(UnliteralChecks):
    def test_one_two_and_three_digits(self):
        for octets, c in [(b"\\0", 0), (b"\\7", 7), (b"\\00", 0), (b"\\17", 15), (b"\\77", 63),
                          (b"\\000", 0), (b"\\101", 0x41), (b"\\177", 0x7F), (b"\\377", 0xFF)]:
            self.reads(octets, [c])
            for behind in b"89aAgxuU ":
                self.reads(octets + bytes([behind]), [c, behind])

    def test_another_octal_digit(self):
        self.reads(b"\\01", [1])
        self.reads(b"\\012", [0xA])
        self.reads(b"\\0123", [0xA, 0x33])
        self.reads(b"\\0000", [0, 0x30])
        self.reads(b"\\1011", [0x41, 0x31])

    def test_more_than_a_byte_has(self):
        self.reads(b"\\400", [0x100])
        self.reads(b"\\777", [0x1FF])
        self.reads(b"\\7777", [0x1FF, 0x37])

    def test_eight_and_nine_are_none(self):
        self.refused(b"\\8", 0)
        self.refused(b"\\9", 0)
        self.refused(b"\\811", 0)
        self.reads(b"\\18", [1, 0x38])
        self.reads(b"\\129", [0xA, 0x39])

    def test_one_behind_another(self):
        self.reads(b"\\1\\1", [1, 1])
        self.reads(b"\\12\\3\\456", [0xA, 3, 0o456])

    def test_every_value(self):
        for value in range(512):
            self.reads(b"\\%03o" % value, [value])
            self.reads(b"\\%o" % value, [value])


class HexadecimalTest(UnliteralChecks):
    def test_x_without_a_digit(self):
        self.refused(b"\\x", 0)
        self.refused(b"\\xg", 0)
        self.refused(b"\\x\\x41", 0)
        self.refused(b"\\x 41", 0)
        self.refused(b"\\X41", 0)

    def test_x_with_one_to_eight(self):
        for size in range(1, 9):
            self.reads(b"\\x" + b"9".rjust(size, b"0"), [9])
            self.reads(b"\\x" + b"f".rjust(size, b"0") + b"g", [15, 0x67])
            self.reads(b"\\x" + b"F".rjust(size, b"0") + b"\\n", [15, 0xA])

    def test_x_with_nine(self):
        self.reads(b"\\x000000411", [0x41, 0x31])
        self.reads(b"\\x00000041F", [0x41, 0x46])
        self.reads(b"\\x0010FFFFF", [0x10FFFF, 0x46])
        self.reads(b"\\x0000000000000041", [0] + [0x30] * 6 + [0x34, 0x31])

    def test_capitals_and_small_letters(self):
        self.reads(b"\\xaBcD", [0xABCD])
        self.reads(b"\\xeF", [0xEF])
        self.reads(b"\\xABCDEgG", [0xABCDE, 0x67, 0x47])
        self.reads(b"\\uabcd\\uABCD\\uaBcD", [0xABCD] * 3)
        self.reads(b"\\U000fEdCb", [0xFEDCB])

    def test_each_byte_as_a_digit(self):
        digits = b"0123456789ABCDEFabcdef"
        for octet in range(256):
            for ahead, behind in ((b"\\x", b""), (b"\\u00", b"0"), (b"\\u000", b""), (b"\\U0000000", b"")):
                octets = ahead + bytes([octet]) + behind
                if octet in digits:
                    self.reads(octets, [int(octets[2:], 16)])
                else:
                    self.refused(octets, 0)
            self.as_words_say(MOST, b"\\x1" + bytes([octet]))
            self.as_words_say(MOST, b"\\1" + bytes([octet]))

    def test_u_with_three_four_and_five(self):
        self.refused(b"\\u", 0)
        self.refused(b"\\u004", 0)
        self.refused(b"\\u004g", 0)
        self.refused(b"\\u004\\n", 0)
        self.reads(b"\\u0041", [0x41])
        self.reads(b"\\u00411", [0x41, 0x31])
        self.reads(b"\\uFFFFF", [0xFFFF, 0x46])

    def test_great_u_with_seven_eight_and_nine(self):
        self.refused(b"\\U", 0)
        self.refused(b"\\U0000004", 0)
        self.refused(b"\\U0000004g", 0)
        self.refused(b"\\U0000004\\n", 0)
        self.refused(b"\\U0041", 0)
        self.reads(b"\\U00000041", [0x41])
        self.reads(b"\\U000000411", [0x41, 0x31])

    def test_ends_of_what_is_a_character(self):
        self.reads(b"\\uD7FF", [0xD7FF])
        self.reads(b"\\uE000", [0xE000])
        self.reads(b"\\uFFFF", [0xFFFF])
        self.reads(b"\\xD7FF\\xE000", [0xD7FF, 0xE000])
        self.reads(b"\\U0010FFFF", [0x10FFFF])
        self.reads(b"\\x10FFFF", [0x10FFFF])
        self.reads(b"\\u0000\\x0\\U00000000", [0, 0, 0])

    def test_no_characters(self):
        for octets in (b"\\uD800", b"\\uDABC", b"\\uDFFF", b"\\ud800", b"\\xD800", b"\\xDFFF", b"\\x0000D800",
                       b"\\U0000D800", b"\\U0000DFFF", b"\\U00110000", b"\\x110000", b"\\x00110000",
                       b"\\x80000000", b"\\xFFFFFFFF", b"\\UFFFFFFFF"):
            self.refused(octets, 0)
            self.refused(octets + b"g", 0)

    def test_two_halves_are_no_character_all_the_same(self):
        self.refused(b"\\uD83D\\uDE00", 0)

    def test_a_further_digit_makes_it_none(self):
        self.reads(b"\\xD80", [0xD80])
        self.refused(b"\\xD800", 0)
        self.reads(b"\\xD8000", [0xD8000])
        self.refused(b"\\xD80000", 0)


class PlaceTest(UnliteralChecks):
    def test_behind_each_length(self):
        for ahead, _ in WHOLE:
            for fault in FAULTS:
                # A blank between, as the fault might else be read as a digit of what stands ahead.
                self.refused(ahead + b" " + fault, len(ahead) + 1)
                self.refused(b"xy" + ahead + ahead + b" " + fault, 3 + 2 * len(ahead))

    def test_right_behind_an_escape(self):
        self.refused(b"\\n\\", 2)
        self.refused(b"\\x41\\q", 4)
        self.refused(b"\\12\"", 3)
        self.refused(b"\\u0041\x80", 6)
        self.refused(b"\\U00000041\\u004", 10)

    def test_the_first_fault_counts(self):
        for first, second in itertools.product(FAULTS, FAULTS):
            if first != b"\\":
                self.refused(b"ab" + first + b" " + second, 2)

    def test_a_fault_within_an_escape_is_told_by_its_beginning(self):
        self.refused(b"ab\\u00\xff\xff", 2)
        self.refused(b"ab\\U0000\"", 2)
        self.refused(b"ab\\x\x00", 2)
        self.refused(b"ab\\\n", 2)

    def test_what_follows_a_fault(self):
        for fault in FAULTS:
            if fault != b"\\":
                self.refused(b"a" + fault + b" bc", 1)


class MostTest(UnliteralChecks):
    def test_as_many_as_most(self):
        octets = b"a\\n\\101\\u00E9\\U0001F600"
        text = [0x61, 0xA, 0x41, 0xE9, 0x1F600]
        for most in (5, 6, len(octets), MOST):
            self.assertEqual(unliteral(most, list(octets)), [5, *text])
        for most in (4, 3, 2, 1, 0):
            self.assertEqual(unliteral(most, list(octets)), [-1, len(octets)])

    def test_most_and_each_length_at_the_end(self):
        for octets, c in WHOLE:
            self.reads(octets, [c])
            self.reads(b"ab" + octets, [0x61, 0x62, c])

    def test_most_of_none(self):
        self.assertEqual(unliteral(0, []), [0])
        self.assertEqual(unliteral(0, [0x61]), [-1, 1])
        self.assertEqual(unliteral(0, list(b"\\n")), [-1, 2])
        self.assertEqual(unliteral(0, list(b"\\U0010FFFF")), [-1, 10])

    def test_more_than_most_and_a_fault_further_on(self):
        for fault in FAULTS:
            self.assertEqual(unliteral(1, list(b"abc" + fault)), [-1, 3])
            self.assertEqual(unliteral(0, list(b"abc" + fault)), [-1, 3])
            self.assertEqual(unliteral(3, list(b"abc" + fault)), [-1, 3])
            self.assertEqual(unliteral(4, list(b"abc" + fault)), [-1, 3])


class LongTest(UnliteralChecks):
    def test_without_a_backslash(self):
        self.reads(b"a" * 65536, [0x61] * 65536)
        self.refused(b"a" * 65535 + b'"', 65535)
        self.refused(b"a" * 65535 + b"\\", 65535)

    def test_full_of_escapes(self):
        self.reads(b"\\n" * 32768, [0xA] * 32768)
        self.reads(b"\\\\" * 32768, [0x5C] * 32768)
        self.reads(b"\\777" * 16384, [0o777] * 16384)
        self.reads(b"\\7" * 32768, [7] * 32768)
        self.reads(b"\\U0010FFFF" * 6553 + b"\\u0041", [0x10FFFF] * 6553 + [0x41])
        self.reads(b"\\x0010FFFF" * 6553 + b"\\x00FF", [0x10FFFF] * 6553 + [0xFF])
        self.refused(b"\\U0010FFFF" * 6553 + b"\\u004", 65530)
        self.refused(b"\\n" * 32767 + b"\\", 65534)

    def test_one_long_row_of_digits(self):
        self.reads(b"\\x" + b"0" * 65534, [0] + [0x30] * 65526)
        self.reads(b"\\" + b"1" * 65535, [0o111] + [0x31] * 65532)


class ByWordsTest(UnliteralChecks):
    def check_all(self, some, most_bytes):
        for size in range(most_bytes + 1):
            for octets in itertools.product(some, repeat=size):
                for most in (0, 1, 2, MOST):
                    self.as_words_say(most, bytes(octets))

    def test_short_lists(self):
        self.check_all(b'\\0d8xun"', 5)

    def test_behind_each_beginning(self):
        some = b"\\0dF8g"
        for ahead in (b"\\x", b"\\u", b"\\u00", b"\\uD", b"\\U0000", b"\\U0000D", b"\\x0000D", b"\\x0000d80", b"\\1"):
            for size in range(5):
                for behind in itertools.product(some, repeat=size):
                    self.as_words_say(MOST, ahead + bytes(behind))


class ThereAndBackTest(UnliteralChecks):
    def check(self, text):
        answer = literal(MOST, text)
        self.assertEqual(answer[0], len(answer) - 1)
        self.assertEqual(unliteral(len(text), answer[1:]), [len(text), *text])

    def test_every_character(self):
        everyone = [c for c in range(0x110000) if not 0xD800 <= c <= 0xDFFF]
        for start in range(0, len(everyone), 6000):
            self.check(everyone[start:start + 6000])

    def test_each_ahead_of_digits(self):
        for c in [*range(0x200), 0xD7FF, 0xE000, 0xFFFF, 0x10000, 0x10FFFF]:
            for behind in b"07af F":
                self.check([c, behind, c])

    def test_short_texts(self):
        for size in range(4):
            for text in itertools.product([0x0, 0x30, 0x22, 0x5C, 0x6E, 0x75, 0xA, 0x7F, 0xFFFF, 0x10000], repeat=size):
                self.check(list(text))


if __name__ == "__main__":
    unittest.main()
