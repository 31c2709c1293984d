"""The calls as they stand: names, arguments, kinds, and that nothing is kept between two calls."""

import contextlib
import inspect
import io
import unittest

from widetexts import chars

CALLS = {
    "class_of": ["c"],
    "fold": ["c"],
    "upper": ["c"],
}

ONE_CHARACTER = ["class_of", "fold", "upper"]

CHARACTERS = [
    0x0, 0x9, 0x20, 0x30, 0x41, 0x61, 0x85, 0xD7, 0xFF, 0x178, 0x17F, 0x301, 0x3A2, 0x3C2, 0x40F, 0x669, 0x212A,
    0x4E00, 0xD800, 0xDFFF, 0xFF21, 0x10FFFF, 0x110000, 4294967295,
]


class InterfaceTest(unittest.TestCase):
    def test_names_of_arguments(self):
        for name, arguments in CALLS.items():
            parameters = inspect.signature(getattr(chars, name)).parameters
            self.assertEqual(list(parameters), arguments, name)

    def test_a_list_of_one_whole_number(self):
        for name in ONE_CHARACTER:
            for c in CHARACTERS:
                answer = getattr(chars, name)(c)
                self.assertIs(type(answer), list, name)
                self.assertEqual([type(number) for number in answer], [int], name)

    def test_a_second_call_answers_the_same(self):
        for name in ONE_CHARACTER:
            call = getattr(chars, name)
            for c in CHARACTERS:
                first = call(c)
                kept = list(first)
                # What the caller does with an answer must not show in the next one.
                first.append(-5)
                self.assertEqual(call(c), kept, name)

    def test_nothing_is_printed(self):
        out = io.StringIO()
        with contextlib.redirect_stdout(out), contextlib.redirect_stderr(out):
            for name in ONE_CHARACTER:
                for c in CHARACTERS:
                    getattr(chars, name)(c)
        self.assertEqual(out.getvalue(), "")


if __name__ == "__main__":
    unittest.main()
