"""Promise 6: match_of."""

import functools
import itertools
import unittest

from widetexts.chars import fold, match_of, upper

GREAT = 0x80000000
MOST = 4294967295


def chars_of(text):
    return [ord(sign) for sign in text]


# The oracle below reads the promise's words from the front, part by part, and tries every length for a *.

def set_by_words(pattern):
    """Of a pattern that begins with [: how many characters the set takes, and what fits it; 0 where no ] ends it."""
    inner = pattern[1:]
    round_about = inner[:1] in ([0x21], [0x5E])
    if round_about:
        inner = inner[1:]
    if 0x5D not in inner[1:]:
        return 0, None
    inner = inner[:inner.index(0x5D, 1)]
    size = 1 + round_about + len(inner) + 1
    has = []
    while inner:
        if len(inner) >= 3 and inner[1] == 0x2D:
            has.append(range(inner[0], inner[2] + 1))
            inner = inner[3:]
        else:
            has.append([inner[0]])
            inner = inner[1:]

    def fits(c):
        forms = [c, fold(c)[0], upper(c)[0]]
        return round_about != any(form in some for form in forms for some in has)

    return size, fits


def match_by_words(pattern, text):
    @functools.lru_cache(maxsize=None)
    def fits_from(k, j):
        if k == len(pattern):
            return j == len(text)
        c = pattern[k]
        if c == 0x2A:
            return any(fits_from(k + 1, later) for later in range(j, len(text) + 1))
        if j == len(text):
            return False
        if c == 0x3F:
            return fits_from(k + 1, j + 1)
        if c == 0x5B:
            size, fits = set_by_words(pattern[k:])
            if size > 0:
                return fits(text[j]) and fits_from(k + size, j + 1)
        if c == 0x5C and k + 1 < len(pattern):
            k = k + 1
        return fold(pattern[k]) == fold(text[j]) and fits_from(k + 1, j + 1)

    return int(fits_from(0, 0))


class MatchTest(unittest.TestCase):
    def check(self, pattern, text, answer):
        if isinstance(pattern, str):
            pattern = chars_of(pattern)
        if isinstance(text, str):
            text = chars_of(text)
        self.assertEqual(match_of(pattern, text), [answer], f"{pattern[:30]} and {text[:30]}")

    def fits(self, pattern, *texts):
        for text in texts:
            self.check(pattern, text, 1)

    def misses(self, pattern, *texts):
        for text in texts:
            self.check(pattern, text, 0)


class PlainPartsTest(MatchTest):
    def test_empty(self):
        self.fits("", "")
        self.misses("", "a", "*", " ")
        self.misses("a", "")
        self.misses("?", "")
        self.misses("[a]", "")
        self.misses("[!a]", "")
        self.misses("\\", "")
        self.fits("*", "")
        self.fits("***", "")

    def test_all_of_the_text(self):
        self.fits("abc", "abc")
        self.misses("abc", "ab", "abcd", "xabc", "abd", "bc")

    def test_any_one(self):
        self.fits("?", "a", "?", "*", [0], [MOST])
        self.misses("?", "ab")
        self.fits("a?c", "abc", "a?c")
        self.misses("a?c", "ac", "abbc")
        self.fits("??", "ab")
        self.misses("??", "a", "abc")

    def test_any_row(self):
        self.fits("*", "a", "abc", "*", [0, MOST])
        self.fits("a*", "a", "ab", "abc")
        self.misses("a*", "", "ba")
        self.fits("*a", "a", "ba", "aa", "aba")
        self.misses("*a", "", "ab")
        self.fits("a*b", "ab", "axb", "axxb", "abab")
        self.misses("a*b", "a", "b", "aba", "xab")
        self.fits("*a*", "a", "xa", "ax", "xax")
        self.misses("*a*", "", "x", "xyz")

    def test_several_rows_side_by_side(self):
        self.fits("a**b", "ab", "axb", "axxxb")
        self.misses("a**b", "a", "axbx")
        self.fits("*****", "", "abc")
        self.fits("**a**", "a", "xaxx")
        self.misses("**a**", "xx")
        self.fits("*?*", "a", "abc")
        self.misses("*?*", "")
        self.fits("?*?", "ab", "abc")
        self.misses("?*?", "a", "")

    def test_a_row_that_must_be_tried_further_on(self):
        self.fits("*ab", "aab", "abab", "aaab")
        self.fits("*aab*", "aaab", "xaabx")
        self.fits("a*bc*d", "abxbcxd", "abcbcdd")
        self.fits("*abac", "ababac", "abaabac")
        self.misses("*abac", "ababa", "abab")
        self.fits("a*a*a", "aaa", "axaya")
        self.misses("a*a*a", "aa", "axa")
        self.fits("*[ab]c", "abbc")
        self.fits("*?b", "aab", "bb")

    def test_every_other_character_is_itself(self):
        for text in ("]", "!", "^", "-", "a-z", "]]", "^a", "!a", "{a,b}", "(a)", "a+", ".", "$", "0", " "):
            self.fits(text, text)
        self.misses(".", "a")
        self.misses("a-c", "b")
        self.misses("]", "")


class CaseTest(MatchTest):
    def test_small_and_capital(self):
        self.fits("a", "A")
        self.fits("A", "a")
        self.fits("FiLe*", "fIlEs")
        self.fits([0x3B1], [0x391])
        self.fits([0x40F], [0x45F])
        self.fits([0xFF], [0x178])
        self.fits([0x178], [0xFF])
        self.fits([0xFF21], [0xFF41])
        self.misses([0xFF21], [0x41])
        self.misses("@", "`")
        self.misses("[[]", "{")

    def test_letters_that_share_a_small_letter(self):
        for row in ([0x73, 0x53, 0x17F], [0x6B, 0x4B, 0x212A], [0x3C3, 0x3A3, 0x3C2]):
            for one, other in itertools.product(row, row):
                self.fits([one], [other])
                self.fits([0x5C, one], [other])
                self.fits([0x2A, one, 0x2A], [0x78, other, 0x78])

    def test_a_set_that_has_the_small_letter(self):
        self.fits("[a]", "a", "A")
        self.fits("[a-z]", "A", "Z", "m")
        self.fits([0x5B, 0x6B, 0x5D], [0x212A])
        self.fits([0x5B, 0x73, 0x5D], [0x17F])
        self.fits([0x5B, 0x3C3, 0x5D], [0x3C2])
        self.misses("[!a]", "a", "A")
        self.misses("[^a-z]", "A", "Z", "m")
        self.misses([0x5B, 0x21, 0x6B, 0x5D], [0x212A])

    def test_a_set_that_has_the_capital(self):
        self.fits("[A]", "a", "A")
        self.fits("[A-Z]", "a", "z", "M")
        self.fits([0x5B, 0x53, 0x5D], [0x17F])
        self.fits([0x5B, 0x3A3, 0x5D], [0x3C2])
        self.fits([0x5B, 0x178, 0x5D], [0xFF])
        self.misses("[!A]", "a", "A")
        self.misses("[^A-Z]", "a", "z", "M")
        self.misses([0x5B, 0x5E, 0x3A3, 0x5D], [0x3C2])

    def test_a_set_that_has_neither_of_the_three(self):
        # 212A is its own capital, and s has 73 and 53 alone.
        self.misses([0x5B, 0x4B, 0x5D], [0x212A])
        self.fits([0x5B, 0x21, 0x4B, 0x5D], [0x212A])
        self.misses([0x5B, 0x212A, 0x5D], "k", "K")
        self.misses([0x5B, 0x17F, 0x5D], "s", "S")
        self.fits([0x5B, 0x5E, 0x17F, 0x5D], "s", "S")
        self.misses([0x5B, 0x3C2, 0x5D], [0x3C3], [0x3A3])
        self.fits([0x5B, 0x17F, 0x5D], [0x17F])
        self.fits([0x5B, 0x212A, 0x5D], [0x212A])

    def test_stretches_are_by_number(self):
        self.fits("[Z-a]", "Z", "[", "a", "`", "z", "A")
        self.misses("[Z-a]", "b", "Y", "y")


class SetTest(MatchTest):
    def test_one_and_several(self):
        self.fits("[a]", "a")
        self.misses("[a]", "b", "", "aa", "[a]", "[", "]")
        self.fits("[abc]", "a", "b", "c")
        self.misses("[abc]", "d", "ab")
        self.fits("x[ab]y", "xay", "xby")
        self.misses("x[ab]y", "xy", "xaby", "xcy")
        self.fits("[aa]", "a")
        self.fits("[ca]", "a", "c")
        self.misses("[ca]", "b")

    def test_sets_side_by_side(self):
        self.fits("[a][b]", "ab")
        self.misses("[a][b]", "ba", "a", "b", "aa", "bb")
        self.fits("[b][a]", "ba")
        self.misses("[b][a]", "ab", "bb", "aa")
        self.fits("[x-z][a-c][!m]", "yba", "zcz")
        self.misses("[x-z][a-c][!m]", "bya", "yym", "ybm", "dba")

    def test_stretch(self):
        self.fits("[b-d]", "b", "c", "d")
        self.misses("[b-d]", "a", "e", "-")
        self.fits("[b-b]", "b")
        self.misses("[b-b]", "a", "c", "-")
        self.fits("[0-9]", "0", "5", "9")
        self.misses("[0-9]", "/", ":", [0x660])
        self.fits("[a-cx-z]", "a", "c", "x", "z")
        self.misses("[a-cx-z]", "d", "w", "-")
        self.fits("[a-mc-d]", "a", "e", "m")
        self.fits("[c-da-m]", "a", "e", "m")
        self.fits("[a-dd-f]", "d", "e")
        self.fits("[a-cd-f]", "c", "d", "f")
        self.misses("[a-cd-f]", "g", "-")

    def test_stretch_the_wrong_way_round(self):
        self.misses("[z-a]", "m", "a", "z", "-")
        self.fits("[!z-a]", "m", "a", "-")
        self.fits("[z-ax]", "x")
        self.fits("[xz-a]", "x")
        self.misses("[xz-a]", "m")
        self.fits("[z-aa-c]", "b")

    def test_turned_round(self):
        for sign in "!^":
            self.misses(f"[{sign}a]", "a", "", "bb")
            self.fits(f"[{sign}a]", "b", sign, "]", "[", "-")
            self.misses(f"[{sign}b-d]", "b", "c", "d")
            self.fits(f"[{sign}b-d]", "a", "e", "-")
            self.misses(f"x[{sign}a]", "x", "xa")
            self.fits(f"x[{sign}a]", "xb")

    def test_closing_right_behind_the_opening(self):
        self.fits("[]a]", "]", "a")
        self.misses("[]a]", "b", "[", "[]a]")
        self.fits("[]]", "]")
        self.misses("[]]", "[", "[]]")
        self.fits("[]-a]", "]", "^", "`", "a")
        self.misses("[]-a]", "-", "\\", "b")
        self.fits("[[-]]", "[]", "-]")
        self.misses("[[-]]", "[", "\\", "]")

    def test_closing_right_behind_the_sign(self):
        for sign in "!^":
            self.misses(f"[{sign}]a]", "]", "a")
            self.fits(f"[{sign}]a]", "b", "[", sign)
            self.misses(f"[{sign}]]", "]", f"[{sign}]]")
            self.fits(f"[{sign}]]", "a", sign)

    def test_a_later_closing_ends_the_set(self):
        self.fits("[ab]]", "a]", "b]")
        self.misses("[ab]]", "a", "]", "]]")
        self.fits("[a]b]", "ab]")
        self.misses("[a]b]", "b", "]")
        self.fits("[]a]]", "]]", "a]")

    def test_hyphen_at_the_front(self):
        self.fits("[-a]", "-", "a")
        self.misses("[-a]", "b", "\\", ".")
        self.fits("[-]", "-")
        self.misses("[!-a]", "-", "a")
        self.fits("[!-a]", "b", ".")
        # The capitals lie between - and a, so that small letters fit too.
        self.fits("[--a]", "-", ".", "a", "`", "A", "b")
        self.misses("[--a]", ",", "{")
        self.fits("[---]", "-")
        self.misses("[---]", ",", ".")

    def test_hyphen_ahead_of_the_closing(self):
        self.fits("[a-]", "a", "-")
        self.misses("[a-]", "b", "]", "\\")
        self.fits("[a-]]", "a]", "-]")
        self.misses("[a-]]", "]", "a", "^")
        self.misses("[!a-]", "a", "-")
        self.fits("[a-c-]", "a", "b", "c", "-")
        self.misses("[a-c-]", "d")
        self.fits("[]-]", "]", "-")
        self.misses("[]-]", "^")
        self.fits("[--]", "-")
        self.misses("[a--]", "a", "-", "A")

    def test_hyphen_right_behind_a_stretch(self):
        self.fits("[a-c-e]", "a", "b", "c", "-", "e")
        self.misses("[a-c-e]", "d")
        self.fits("[a-c-e-g]", "-", "e", "f", "g", "b")
        self.misses("[a-c-e-g]", "d", "h")
        self.fits("[a-c--e]", "b", "-", ".", "d", "e")
        self.misses("[a-c--e]", "{", ",")
        self.misses("[!a-c-e]", "a", "b", "-", "e")
        self.fits("[!a-c-e]", "d")

    def test_hyphen_as_an_end(self):
        self.fits("[+--]", "+", ",", "-")
        self.misses("[+--]", "*", ".")
        self.fits("[--/]", "-", ".", "/")

    def test_sign_further_in(self):
        self.fits("[a!]", "a", "!")
        self.misses("[a!]", "b")
        self.fits("[a^]", "a", "^")
        self.misses("[a^]", "b")
        self.misses("[!!]", "!")
        self.fits("[!!]", "a", "^")
        self.misses("[!^]", "^")
        self.fits("[!^]", "!", "a")
        self.misses("[^^a]", "^", "a")
        self.misses("[^!]", "!")
        self.fits("[!-!]", "a", ",")
        self.misses("[!-!]", "!", "-")

    def test_backslash_within(self):
        self.fits("[\\a]", "\\", "a")
        self.misses("[\\a]", "b")
        self.fits("[a\\]", "a", "\\")
        self.misses("[a\\]", "]")
        self.fits("[\\]", "\\")
        self.misses("[\\]", "]", "[")
        self.fits("[\\]]", "\\]")
        self.misses("[\\]]", "]", "\\")
        self.fits("[!\\]", "]", "a")
        self.misses("[!\\]", "\\")
        self.fits("[\\-a]", "\\", "]", "^", "a")
        self.misses("[\\-a]", "-", "b")
        self.fits("[Z-\\]", "Z", "[", "\\")

    def test_other_signs_within(self):
        self.fits("[*]", "*")
        self.misses("[*]", "a", "")
        self.fits("[?]", "?")
        self.misses("[?]", "a")
        self.fits("[[]", "[")
        self.fits("[a[]", "a", "[")
        self.misses("[a[]", "]")
        self.fits("[[a]", "[", "a")
        self.fits("[a[b]c]", "ac]", "[c]", "bc]")
        self.misses("[a[b]c]", "a", "c")

    def test_no_closing(self):
        for text in ("[", "[]", "[!]", "[^]", "[!", "[^", "[a-", "[a", "[^]x", "[]abc", "[!]a", "[[", "[-", "a["):
            self.fits(text, text)
            self.misses(text, "", "a", "x", text + "a")
        self.misses("[a", "a", "[")
        self.fits("[A", "[a")

    def test_what_follows_where_there_is_no_closing(self):
        self.fits("[*", "[", "[a", "[abc")
        self.misses("[*", "a", "")
        self.fits("[a*b", "[ab", "[axxb")
        self.misses("[a*b", "axb", "a")
        self.fits("[?", "[a", "[?")
        self.misses("[?", "[")
        self.fits("[]*", "[]", "[]xyz")
        self.misses("[]*", "[", "]")
        self.fits("[!]*x", "[!]x", "[!]abx")
        self.fits("[\\*", "[*")
        self.misses("[\\*", "[a", "[\\a", "[\\*")
        self.fits("[a-\\", "[a-\\")
        self.fits("*[", "[", "a[")

    def test_a_closed_set_ahead_of_one_without_closing(self):
        self.fits("[a][", "a[")
        self.fits("[a][b", "a[b")
        self.fits("[a]*[!]", "a[!]", "ax[!]")

    def test_set_behind_rows(self):
        self.fits("*[0-9]", "a1", "1", "12")
        self.misses("*[0-9]", "", "1a")
        self.fits("*[!0-9]*", "1a1")
        self.misses("*[!0-9]*", "11", "")


class BackslashTest(MatchTest):
    def test_makes_what_follows_itself(self):
        self.fits("\\*", "*")
        self.misses("\\*", "", "a", "\\*", "\\")
        self.fits("\\?", "?")
        self.misses("\\?", "a", "\\?")
        self.fits("\\[", "[")
        self.fits("\\[a]", "[a]")
        self.misses("\\[a]", "a")
        self.fits("\\\\", "\\")
        self.misses("\\\\", "\\\\")
        self.fits("\\\\*", "\\", "\\abc")
        self.fits("\\]", "]")

    def test_ahead_of_an_ordinary_character(self):
        self.fits("\\a", "a", "A")
        self.misses("\\a", "\\a", "\\")
        self.fits("\\n", "n")
        self.misses("\\n", "\n")
        self.fits("a\\bc", "abc")

    def test_at_the_end(self):
        self.fits("\\", "\\")
        self.misses("\\", "a", "\\\\")
        self.fits("a\\", "a\\")
        self.fits("*\\", "\\", "a\\")
        self.misses("*\\", "a")
        self.fits("\\\\\\", "\\\\")
        self.fits("[a]\\", "a\\")


class GreatAndLongTest(MatchTest):
    def test_great_characters(self):
        self.fits([GREAT], [GREAT])
        self.misses([GREAT], [GREAT + 1], [0], [GREAT - 1])
        self.fits([0x2A, MOST], [MOST], [0, MOST])
        self.fits([0x5B, GREAT, 0x2D, MOST, 0x5D], [GREAT], [MOST], [GREAT + 5])
        self.misses([0x5B, GREAT, 0x2D, MOST, 0x5D], [GREAT - 1], [0x61])
        self.fits([0x5B, 0, 0x2D, MOST, 0x5D], [0], [MOST], [GREAT])
        self.misses([0x5B, 0x21, 0, 0x2D, MOST, 0x5D], [0], [MOST], [GREAT])
        self.misses([0x5B, 0x5E, MOST, 0x5D], [MOST])
        self.fits([0x5B, 0x5E, MOST, 0x5D], [MOST - 1])
        self.misses([GREAT + 0x41], [GREAT + 0x61])
        self.misses([GREAT + 0x2A], [0x61])
        self.fits([0x5C, MOST], [MOST])

    def test_many_rows(self):
        self.fits("*a" * 5000, "a" * 30000)
        self.misses("*a" * 5000 + "*b", "a" * 30000)
        self.misses("a*" * 5000 + "b", "a" * 30000)
        self.fits("*a" * 15000, "a" * 15000)
        self.misses("*a" * 15000, "a" * 14999)
        self.fits("*" * 30000, "a" * 30000)
        self.fits("*?" * 15000, "a" * 15000)
        self.misses("*?" * 15000, "a" * 14999)
        self.misses("*a*b" * 5000, "ab" * 4999)
        self.fits("*a*b" * 5000, "ab" * 5000)

    def test_long_parts_behind_a_row(self):
        self.misses("*" + "a" * 15000 + "b", "a" * 30000)
        self.fits("*" + "a" * 15000 + "b", "a" * 29999 + "b")
        self.misses("*" + "[ab]" * 7000 + "c", "ab" * 15000)
        self.fits("*" + "[!c]" * 7000 + "c", "ab" * 14999 + "c")
        self.misses("*" + "?" * 15000 + "b*", "a" * 30000)

    def test_long_and_plain(self):
        self.fits("a" * 30000, "A" * 30000)
        self.misses("a" * 30000, "a" * 29999)
        self.misses("a" * 29999 + "b", "a" * 30000)
        self.fits("?" * 30000, "a" * 30000)
        self.fits("\\a" * 15000, "a" * 15000)

    def test_many_openings(self):
        self.fits("[" * 30000, "[" * 30000)
        self.misses("[" * 29999, "[" * 30000)
        self.fits("[" * 29999 + "]", "[")
        self.fits("[!" * 15000, "[!" * 15000)

    def test_many_unlike_sets(self):
        text = [1000 + 2 * k for k in range(7000)]
        sets = [c for own in text for c in (0x5B, own, own, 0x5D)]
        self.fits(sets, text)
        self.fits([0x2A] + sets, [5] * 20000 + text)
        self.misses([0x2A] + sets, [5] * 20000 + text[:-1] + [1])
        falling = [c for own in text[::-1] for c in (0x5B, own, own, 0x5D)]
        self.fits([0x2A] + falling, [5] * 20000 + text[::-1])
        self.misses([0x2A] + falling, [5] * 20000 + text)
        self.fits([0x5B, 0x5E] + text + [0x5D], [1001])
        self.misses([0x5B, 0x5E] + text + [0x5D], [14998])
        self.fits([0x5B] + text + [0x5D], [1000])


class ByWordsTest(MatchTest):
    def check_all(self, signs, most, texts):
        texts = [chars_of(text) for text in texts]
        for size in range(most + 1):
            for pattern in itertools.product(chars_of(signs), repeat=size):
                pattern = list(pattern)
                for text in texts:
                    if match_of(pattern, text) != [match_by_words(pattern, text)]:
                        self.fail(f"{''.join(map(chr, pattern))!r} and {''.join(map(chr, text))!r}")

    def test_rows_and_ones(self):
        texts = ["".join(text) for size in range(5) for text in itertools.product("ab", repeat=size)]
        self.check_all("ab*?", 5, texts)

    def test_sets(self):
        texts = ["", "a", "B", "c", "d", "-", "]", "!", "[", "ab", "a]", "[]", "[!]", "[a-", "-]"]
        self.check_all("ac-]![", 5, texts)

    def test_sets_that_are_opened(self):
        for front in ("[", "[!", "[]", "[^]"):
            for inner in itertools.product("ace-^", repeat=5):
                pattern = chars_of(front + "".join(inner) + "]")
                for text in ("a", "b", "c", "D", "E", "f", "-", "^", "]", ".", "`"):
                    text = chars_of(text)
                    if match_of(pattern, text) != [match_by_words(pattern, text)]:
                        self.fail(f"{''.join(map(chr, pattern))!r} and {''.join(map(chr, text))!r}")

    def test_sets_in_every_order(self):
        texts = [chars_of(text) for text in itertools.product("aBcd-", repeat=3)]
        for sets in itertools.product(("[a]", "[c]", "[!b]", "[b-d]", "[^a-]", "?", "*"), repeat=3):
            pattern = chars_of("".join(sets))
            for text in texts:
                self.check(pattern, text, match_by_words(pattern, text))

    def test_backslashes(self):
        texts = ["", "a", "\\", "*", "[", "]", "a]", "[a]", "\\a", "\\]", "ab", "\\\\", "[\\]", "*a", "a*"]
        self.check_all("a\\*[]", 5, texts)


if __name__ == "__main__":
    unittest.main()
