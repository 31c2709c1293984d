"""The calls as they stand: names, arguments, kinds, and that nothing is kept or changed."""

import contextlib
import copy
import inspect
import io
import sys
import unittest

from widetexts import chars

CALLS = {
    "class_of": ["c"],
    "fold": ["c"],
    "upper": ["c"],
    "digit": ["c"],
    "columns": ["c"],
    "compare": ["a", "b"],
    "match_of": ["pattern", "text"],
    "number": ["text"],
    "cut": ["columns", "text"],
    "to16": ["most", "text"],
    "from16": ["most", "units"],
    "literal": ["most", "text"],
    "unliteral": ["most", "octets"],
}

ONE_CHARACTER = ["class_of", "fold", "upper", "digit", "columns"]

CHARACTERS = [
    0x0, 0x9, 0x20, 0x30, 0x41, 0x61, 0x85, 0xD7, 0xFF, 0x178, 0x17F, 0x301, 0x3A2, 0x3C2, 0x40F, 0x669, 0x212A,
    0x4E00, 0xD800, 0xDFFF, 0xFF21, 0x10FFFF, 0x110000, 4294967295,
]

# How many whole numbers each call answers with, where it isn't one; the calls of COUNTED say it by the first.
SIZES = {"number": 2, "cut": 2}
COUNTED = ["to16", "from16", "literal", "unliteral"]


def chars_of(text):
    return [ord(sign) for sign in text]


TEXTS = [
    [],
    CHARACTERS,
    chars_of("a007b"),
    chars_of("A7B"),
    chars_of("  -12x"),
    chars_of("*[!a-c]?\\*["),
    [0x39] * 500,
    [0x0, 0x22, 0x5C, 0xE9, 0x1F600, 0x10FFFF],
]

UNITS = [
    [],
    [0x41, 0xD83D, 0xDE00, 0xFFFF],
    [0x41, 0xD83D],
    [0xDE00, 0xD83D],
    [0xD800, 0xDC00] * 200,
]

OCTETS = [
    [],
    chars_of("plain"),
    chars_of('\\"\\n\\12\\x1f600\\u00E9\\U0010FFFF'),
    chars_of("ab\\"),
    chars_of("ab\\uD800"),
    [0x61, 0xFF],
    chars_of("\\777") * 100,
]

# As long as may be: what went through these by calls within one another would not come back.
LONGEST = [
    ("compare", [[0x39] * 30000, [0x39] * 30000]),
    ("compare", [[0x61, 0x39] * 15000, [0x61, 0x39] * 15000]),
    ("match_of", [[0x2A, 0x61] * 15000, [0x61] * 30000]),
    ("match_of", [[0x5B] + [0x61] * 29998 + [0x5D], [0x61] * 30000]),
    ("number", [[0x20] * 15000 + [0x39] * 15000]),
    ("cut", [2147483647, [0x61] * 30000]),
    ("to16", [4294967295, [0x10FFFF] * 30000]),
    ("from16", [4294967295, [0xDBFF, 0xDFFF] * 30000]),
    ("literal", [4294967295, [0x10FFFF] * 30000]),
    ("unliteral", [4294967295, [0x5C, 0x6E] * 32768]),
]


def samples():
    """Each call's name with arguments of its own."""
    for name in ONE_CHARACTER:
        for c in CHARACTERS:
            yield name, [c]
    for first in TEXTS:
        for second in TEXTS:
            yield "compare", [list(first), list(second)]
            yield "match_of", [list(first), list(second)]
    for text in TEXTS:
        yield "number", [list(text)]
        for most in (-2147483648, -1, 0, 3, 2147483647):
            yield "cut", [most, list(text)]
    for most in (0, 1, 3, 7, 30, 4294967295):
        for text in TEXTS:
            yield "to16", [most, list(text)]
            yield "literal", [most, list(text)]
        for units in UNITS:
            yield "from16", [most, list(units)]
        for octets in OCTETS:
            yield "unliteral", [most, list(octets)]


def size_told(name, answer):
    if name in COUNTED and answer[0] != -1:
        return 1 + answer[0]
    if name == "unliteral":
        return 2
    return SIZES.get(name, 1)


class OnlyRead(list):
    """A list that refuses to be changed, were it only for a while."""

    def refuse(self, *rest, **named):
        raise AssertionError("a list that was handed in is changed")

    __setitem__ = __delitem__ = __iadd__ = __imul__ = refuse
    append = extend = insert = pop = remove = clear = sort = reverse = refuse


def only_read(argument):
    return OnlyRead(argument) if isinstance(argument, list) else argument


class InterfaceTest(unittest.TestCase):
    def test_names_of_arguments(self):
        for name, arguments in CALLS.items():
            call = getattr(chars, name)
            self.assertEqual(str(inspect.signature(call)), f"({', '.join(arguments)})", name)
            self.assertEqual(call.__module__, "widetexts.chars", name)
            self.assertEqual(call.__name__, name)

    def test_every_call_has_samples(self):
        self.assertEqual({name for name, _ in samples()}, set(CALLS))

    def test_a_list_of_so_many_whole_numbers(self):
        for name, arguments in samples():
            answer = getattr(chars, name)(*arguments)
            self.assertIs(type(answer), list, name)
            kinds = [type(number) for number in answer]
            self.assertEqual(kinds, [int] * size_told(name, answer), f"{name} {arguments}")

    def test_samples_of_what_is_counted_and_of_what_is_refused(self):
        for name in COUNTED:
            answers = [getattr(chars, name)(*arguments) for called, arguments in samples() if called == name]
            self.assertTrue(any(answer[0] > 1 for answer in answers), name)
            self.assertTrue(any(answer[0] == -1 for answer in answers), name)

    def test_what_is_handed_in_stays(self):
        for name, arguments in samples():
            before = copy.deepcopy(arguments)
            getattr(chars, name)(*arguments)
            self.assertEqual(arguments, before, name)
            getattr(chars, name)(*[only_read(argument) for argument in arguments])

    def test_a_second_call_answers_the_same(self):
        for name, arguments in samples():
            call = getattr(chars, name)
            first = call(*arguments)
            kept = list(first)
            # What the caller does with an answer must not show in the next one.
            first.append(-5)
            self.assertEqual(call(*arguments), kept, name)

    def test_an_earlier_call_does_not_show(self):
        kept = [getattr(chars, name)(*arguments) for name, arguments in samples()]
        backwards = [getattr(chars, name)(*arguments) for name, arguments in reversed(list(samples()))]
        self.assertEqual(kept, backwards[::-1])

    def test_no_input_is_too_long_for_calls_within_one_another(self):
        kept = sys.getrecursionlimit()
        try:
            sys.setrecursionlimit(200)
            for name, arguments in LONGEST:
                answer = getattr(chars, name)(*arguments)
                self.assertEqual(len(answer), size_told(name, answer), name)
        finally:
            sys.setrecursionlimit(kept)

    def test_nothing_is_printed(self):
        out = io.StringIO()
        with contextlib.redirect_stdout(out), contextlib.redirect_stderr(out):
            for name, arguments in samples():
                getattr(chars, name)(*arguments)
        self.assertEqual(out.getvalue(), "")


if __name__ == "__main__":
    unittest.main()
