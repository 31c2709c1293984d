"""Promise 9: to16 and from16."""

import itertools
import struct
import unittest

from widetexts.chars import from16, to16

MOST = 4294967295
NO_CHARACTERS = [0xD800, 0xDABC, 0xDBFF, 0xDC00, 0xDDDD, 0xDFFF, 0x110000, 0x110041, 0x7FFFFFFF, 0x80000000, MOST]
ONE_UNIT = [0x0, 0x41, 0xFF, 0x3C2, 0xD7FF, 0xE000, 0xFEFF, 0xFFFE, 0xFFFF]

# (character, first half, second half)
PAIRS = [
    (0x10000, 0xD800, 0xDC00),
    (0x10001, 0xD800, 0xDC01),
    (0x103FF, 0xD800, 0xDFFF),
    (0x10400, 0xD801, 0xDC00),
    (0x1F600, 0xD83D, 0xDE00),
    (0x20000, 0xD840, 0xDC00),
    (0x10FC00, 0xDBFF, 0xDC00),
    (0x10FFFF, 0xDBFF, 0xDFFF),
]


def units_by_python(text):
    """The units as Python's own codec has them; None where it refuses."""
    try:
        coded = "".join(map(chr, text)).encode("utf-16-le")
    except (UnicodeEncodeError, ValueError, OverflowError):
        return None
    return list(struct.unpack(f"<{len(coded) // 2}H", coded))


def text_by_python(units):
    try:
        return [ord(sign) for sign in struct.pack(f"<{len(units)}H", *units).decode("utf-16-le")]
    except UnicodeDecodeError:
        return None


def answer_by(found, most):
    return [-1] if found is None or len(found) > most else [len(found), *found]


class To16Test(unittest.TestCase):
    def check(self, most, text, answer):
        self.assertEqual(to16(most, text), answer, f"{most} and {text[:20]}")

    def test_the_empty_text(self):
        for most in (0, 1, MOST):
            self.check(most, [], [0])

    def test_characters_of_one_unit(self):
        for c in ONE_UNIT:
            self.check(MOST, [c], [1, c])
            self.check(1, [c], [1, c])
            self.check(0, [c], [-1])

    def test_characters_of_two_units(self):
        for c, first, second in PAIRS:
            self.check(MOST, [c], [2, first, second])
            self.check(2, [c], [2, first, second])
            self.check(1, [c], [-1])
            self.check(0, [c], [-1])

    def test_mixed(self):
        self.check(MOST, [0x61, 0x1F600, 0x62], [4, 0x61, 0xD83D, 0xDE00, 0x62])
        self.check(MOST, [0x10FFFF, 0x10000], [4, 0xDBFF, 0xDFFF, 0xD800, 0xDC00])
        self.check(MOST, [0xD7FF, 0xE000], [2, 0xD7FF, 0xE000])

    def test_no_characters(self):
        for none in NO_CHARACTERS:
            self.check(MOST, [none], [-1])
            self.check(MOST, [none, 0x61, 0x10000], [-1])
            self.check(MOST, [0x61, none, 0x10000], [-1])
            self.check(MOST, [0x61, 0x10000, none], [-1])
            self.check(0, [none], [-1])
            self.check(1, [0x61, 0x61, none], [-1])

    def test_two_halves_are_no_character_all_the_same(self):
        self.check(MOST, [0xD800, 0xDC00], [-1])
        self.check(MOST, [0xDBFF, 0xDFFF], [-1])

    def test_as_many_as_most_with_one_unit_at_the_end(self):
        text = [0x10000, 0x61, 0x62]
        units = [0xD800, 0xDC00, 0x61, 0x62]
        self.check(4, text, [4, *units])
        self.check(5, text, [4, *units])
        for most in (3, 2, 1, 0):
            self.check(most, text, [-1])

    def test_as_many_as_most_with_two_units_at_the_end(self):
        text = [0x61, 0x62, 0x10FFFF]
        units = [0x61, 0x62, 0xDBFF, 0xDFFF]
        self.check(4, text, [4, *units])
        self.check(5, text, [4, *units])
        # With 3 the first half alone would have room.
        for most in (3, 2, 1, 0):
            self.check(most, text, [-1])

    def test_long_texts(self):
        self.check(MOST, [0x10FFFF] * 30000, [60000] + [0xDBFF, 0xDFFF] * 30000)
        self.check(60000, [0x10000] * 30000, [60000] + [0xD800, 0xDC00] * 30000)
        self.check(59999, [0x10000] * 30000, [-1])
        self.check(MOST, [0x10000] * 29999 + [0xD800], [-1])
        self.check(30000, [0x61] * 30000, [30000] + [0x61] * 30000)
        self.check(29999, [0x61] * 30000, [-1])

    def test_every_character_by_python(self):
        wrong = [hex(c) for c in range(0x110200) if to16(2, [c]) != answer_by(units_by_python([c]), 2)]
        self.assertEqual(wrong, [])

    def test_short_texts_by_python(self):
        some = [0x61, 0xD7FF, 0xD800, 0xDFFF, 0xE000, 0xFFFF, 0x10000, 0x10FFFF, 0x110000]
        for size in range(4):
            for text in map(list, itertools.product(some, repeat=size)):
                for most in range(8):
                    self.check(most, text, answer_by(units_by_python(text), most))


class From16Test(unittest.TestCase):
    def check(self, most, units, answer):
        self.assertEqual(from16(most, units), answer, f"{most} and {units[:20]}")

    def test_no_units(self):
        for most in (0, 1, MOST):
            self.check(most, [], [0])

    def test_single_units(self):
        for unit in ONE_UNIT:
            self.check(MOST, [unit], [1, unit])
            self.check(1, [unit], [1, unit])
            self.check(0, [unit], [-1])
        for unit in (0xD800, 0xDABC, 0xDBFF, 0xDC00, 0xDDDD, 0xDFFF):
            self.check(MOST, [unit], [-1])

    def test_pairs(self):
        for c, first, second in PAIRS:
            self.check(MOST, [first, second], [1, c])
            self.check(1, [first, second], [1, c])
            self.check(0, [first, second], [-1])
            self.check(MOST, [0x61, first, second, 0x62], [3, 0x61, c, 0x62])

    def test_a_first_half_without_a_second(self):
        for first in (0xD800, 0xDABC, 0xDBFF):
            self.check(MOST, [0x61, first], [-1])
            self.check(MOST, [0xD800, 0xDC00, first], [-1])
            for other in (0xD800, 0xDBFF, 0x61, 0x0, 0xD7FF, 0xE000, 0xFFFF):
                self.check(MOST, [first, other], [-1])
                self.check(MOST, [first, other, 0xDC00], [-1])

    def test_a_second_half_without_a_first(self):
        for second in (0xDC00, 0xDDDD, 0xDFFF):
            self.check(MOST, [second, 0x61], [-1])
            self.check(MOST, [second, 0xD800], [-1])
            self.check(MOST, [second, 0xD800, 0xDC00], [-1])
            self.check(MOST, [0xD800, 0xDC00, second], [-1])
            for other in (0x61, 0x0, 0xD7FF, 0xE000, 0xFFFF):
                self.check(MOST, [other, second], [-1])

    def test_as_many_as_most(self):
        units = [0x61, 0xD800, 0xDC00, 0x62, 0xDBFF, 0xDFFF]
        text = [0x61, 0x10000, 0x62, 0x10FFFF]
        self.check(4, units, [4, *text])
        self.check(5, units, [4, *text])
        self.check(6, units, [4, *text])
        self.check(MOST, units, [4, *text])
        for most in (3, 2, 1, 0):
            self.check(most, units, [-1])
        self.check(3, units[:4], [3, *text[:3]])
        self.check(2, units[:4], [-1])

    def test_unpaired_behind_what_is_more_than_most(self):
        self.check(1, [0x61, 0x62, 0xD800], [-1])
        self.check(0, [0xDC00], [-1])

    def test_long_lists(self):
        self.check(MOST, [0xDBFF, 0xDFFF] * 30000, [30000] + [0x10FFFF] * 30000)
        self.check(30000, [0xD800, 0xDC00] * 30000, [30000] + [0x10000] * 30000)
        self.check(29999, [0xD800, 0xDC00] * 30000, [-1])
        self.check(MOST, [0xD800, 0xDC00] * 29999 + [0x61, 0xD800], [-1])
        self.check(MOST, [0xD800, 0xDC00] * 29999 + [0x61, 0xDC00], [-1])
        self.check(MOST, [0xD800, 0xDC00] * 29999 + [0xD800], [-1])
        self.check(60000, [0x61] * 60000, [60000] + [0x61] * 60000)
        self.check(59999, [0x61] * 60000, [-1])

    def test_every_single_unit_by_python(self):
        wrong = [hex(unit) for unit in range(0x10000) if from16(1, [unit]) != answer_by(text_by_python([unit]), 1)]
        self.assertEqual(wrong, [])

    def test_short_lists_by_python(self):
        some = [0x61, 0xD7FF, 0xD800, 0xDBFF, 0xDC00, 0xDFFF, 0xE000, 0xFFFF]
        for size in range(5):
            for units in map(list, itertools.product(some, repeat=size)):
                for most in range(size + 2):
                    self.check(most, units, answer_by(text_by_python(units), most))


class ThereAndBackTest(unittest.TestCase):
    def check(self, text):
        answer = to16(MOST, text)
        self.assertEqual(answer[0], len(answer) - 1)
        self.assertEqual(from16(MOST, answer[1:]), [len(text), *text])

    def test_every_character(self):
        everyone = [c for c in range(0x110000) if not 0xD800 <= c <= 0xDFFF]
        for start in range(0, len(everyone), 30000):
            self.check(everyone[start:start + 30000])

    def test_short_texts(self):
        for size in range(4):
            for text in itertools.product([0x0, 0xD7FF, 0xE000, 0xFFFF, 0x10000, 0x10FFFF], repeat=size):
                self.check(list(text))


if __name__ == "__main__":
    unittest.main()
