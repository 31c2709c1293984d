"""The calls on wide characters and their texts; each answers with a list of whole numbers."""

from widetexts.escapes import BACKSLASH, character_at, octets_of
from widetexts.onechar import capital, class_number, column_count, digit_value, digit_zero
from widetexts.onechar import is_blank, is_character, is_digit, small_letter

EXCLAMATION = 0x21
STAR = 0x2A
PLUS = 0x2B
HYPHEN = 0x2D
QUESTION = 0x3F
OPENING = 0x5B
CLOSING = 0x5D
CARET = 0x5E
MINUS = 0x2212

# A part of a pattern is (kind, what): these two, ("itself", a small letter), and ("set" or "all but set", stretches).
ANY_ROW = ("row", ())
ANY_ONE = ("one", ())

MOST_NUMBER = 0x7FFFFFFFFFFFFFFF

# From here on a character has two units, a first half and a second one, each with ten bits of what it is above this.
FIRST_OF_TWO_UNITS = 0x10000
FIRST_HALF = 0xD800
SECOND_HALF = 0xDC00


def class_of(c):
    return [class_number(c)]


def fold(c):
    return [small_letter(c)]


def upper(c):
    return [capital(c)]


def digit(c):
    return [digit_value(c)]


def columns(c):
    return [column_count(c)]


def order_of(x, y):
    """Which of two numbers comes first; of two lists of numbers, item by item, the one that has ended comes first."""
    if x < y:
        return -1
    if x > y:
        return 1
    return 0


def digits_end(text, start):
    """The place behind the longest row of digits that begins at start; start itself where no digit is there."""
    end = start
    while end < len(text) and is_digit(text[end]):
        end = end + 1
    return end


def values_of_row(row):
    """What the digits stand for, without the zeros ahead: those make a row longer, but not a greater number."""
    values = []
    for c in row:
        value = digit_value(c)
        if value > 0 or len(values) > 0:
            values.append(value)
    return values


def order_of_rows(row, other_row):
    values = values_of_row(row)
    other_values = values_of_row(other_row)
    order = order_of(len(values), len(other_values))
    if order != 0:
        return order
    return order_of(values, other_values)


def order_by_sense(a, b):
    """The order of two texts in which rows of digits are numbers, and capitals are like their small letters."""
    i = 0
    j = 0
    while i < len(a) and j < len(b):
        i_end = digits_end(a, i)
        j_end = digits_end(b, j)
        if i_end > i and j_end > j:
            order = order_of_rows(a[i:i_end], b[j:j_end])
        elif i_end > i:
            order = -1
        elif j_end > j:
            order = 1
        else:
            order = order_of(small_letter(a[i]), small_letter(b[j]))
        if order != 0:
            return order
        i = max(i_end, i + 1)
        j = max(j_end, j + 1)
    return order_of(len(a) - i, len(b) - j)


def compare(a, b):
    order = order_by_sense(a, b)
    if order == 0:
        order = order_of(a, b)
    return [order]


def last_place(c, text):
    """Where c stands for the last time; -1 where it doesn't."""
    k = len(text) - 1
    while k >= 0 and text[k] != c:
        k = k - 1
    return k


def set_start(pattern, k):
    """The place of the first character, a ] or any other, of the set whose [ stands at k."""
    if k + 1 < len(pattern) and pattern[k + 1] in (EXCLAMATION, CARET):
        return k + 2
    return k + 1


def set_end(pattern, start):
    """Where the ] stands that ends the set; the character at start can't be it."""
    end = start + 1
    while pattern[end] != CLOSING:
        end = end + 1
    return end


def stretches_between(pattern, start, end):
    """The stretches of a set, a single character as one that has it at both ends."""
    stretches = []
    k = start
    while k < end:
        if k + 2 < end and pattern[k + 1] == HYPHEN:
            stretches.append((pattern[k], pattern[k + 2]))
            k = k + 3
        else:
            stretches.append((pattern[k], pattern[k]))
            k = k + 1
    return stretches


def parts_of(pattern):
    parts = []
    # Known ahead, so that no [ sends a walk through the whole pattern in vain.
    last_closing = last_place(CLOSING, pattern)
    k = 0
    while k < len(pattern):
        c = pattern[k]
        start = set_start(pattern, k)
        end = k
        if c == STAR:
            # Several in a row fit just what one fits.
            if len(parts) == 0 or parts[-1] != ANY_ROW:
                parts.append(ANY_ROW)
        elif c == QUESTION:
            parts.append(ANY_ONE)
        elif c == BACKSLASH and k + 1 < len(pattern):
            end = k + 1
            parts.append(("itself", small_letter(pattern[end])))
        elif c == OPENING and start < last_closing:
            end = set_end(pattern, start)
            kind = "set" if start == k + 1 else "all but set"
            parts.append((kind, stretches_between(pattern, start, end)))
        else:
            parts.append(("itself", small_letter(c)))
        k = end + 1
    return parts


def turns_of(stretches, bit):
    """Going up through all characters, where the set begins and ceases to have them, each time with the bit."""
    turns = []
    done = 0
    for first, last in sorted(stretches):
        # What an earlier stretch has already is left out, and with it a stretch whose ends stand the wrong way round.
        start = max(first, done)
        if start <= last:
            turns.append((start, bit))
            turns.append((last + 1, bit))
            done = last + 1
    return turns


class PartBits:
    """Which parts of a pattern fit a character, all in one whole number: part k is the bit 1 << k."""

    def __init__(self, parts):
        self.rows = 0
        self.ones = 0
        self.turned_round = 0
        self.by_letter = {}
        self.bounds = []
        self.sets_from_bounds = [0]
        turns = []
        bit = 1
        for kind, what in parts:
            if kind == "row":
                self.rows = self.rows | bit
            elif kind == "one":
                self.ones = self.ones | bit
            elif kind == "itself":
                self.by_letter[what] = self.by_letter.get(what, 0) | bit
            else:
                turns.extend(turns_of(what, bit))
            if kind == "all but set":
                self.turned_round = self.turned_round | bit
            bit = bit << 1
        for bound, turned_bit in sorted(turns):
            self.bounds.append(bound)
            self.sets_from_bounds.append(self.sets_from_bounds[-1] ^ turned_bit)

    def sets_with(self, c):
        """The sets that have c itself, by halving what is left of the bounds."""
        low = 0
        high = len(self.bounds)
        while low < high:
            middle = (low + high) // 2
            if self.bounds[middle] <= c:
                low = middle + 1
            else:
                high = middle
        return self.sets_from_bounds[low]

    def fitting(self, c):
        small = small_letter(c)
        sets = self.sets_with(c) | self.sets_with(small) | self.sets_with(capital(c))
        return self.ones | self.by_letter.get(small, 0) | (sets ^ self.turned_round)


def past_rows(reached, rows):
    # A * fits no character at all, too. One step is enough, as parts_of leaves no two * side by side.
    return reached | ((reached & rows) << 1)


def match_of(pattern, text):
    parts = parts_of(pattern)
    bits = PartBits(parts)
    # The bit 1 << k tells that the first k parts fit the characters passed so far. So all ways to fit are followed
    # at once, and no text makes the call try one after the other.
    reached = past_rows(1, bits.rows)
    for c in text:
        stayed = reached & bits.rows
        stepped = (reached & bits.fitting(c)) << 1
        reached = past_rows(stayed | stepped, bits.rows)
    return [reached >> len(parts)]


def row_end(text, start):
    """The place behind the longest row of digits, all of one row of ten, that begins at start."""
    end = start
    while end < len(text) and is_digit(text[end]) and digit_zero(text[end]) == digit_zero(text[start]):
        end = end + 1
    return end


def bounded_value(row, most):
    value = 0
    for c in row:
        # Bounded on the way too, so that a long row makes no great numbers.
        value = min(value * 10 + digit_value(c), most)
    return value


def number(text):
    start = 0
    while start < len(text) and is_blank(text[start]):
        start = start + 1
    sign = text[start] if start < len(text) else 0
    if sign in (PLUS, HYPHEN, MINUS):
        start = start + 1
    end = row_end(text, start)
    if end == start:
        return [0, 0]
    if sign in (HYPHEN, MINUS):
        return [-bounded_value(text[start:end], MOST_NUMBER + 1), end]
    return [bounded_value(text[start:end], MOST_NUMBER), end]


def cut(columns, text):
    used = 0
    size = 0
    for c in text:
        width = column_count(c)
        if width < 0 or used + width > columns:
            break
        used = used + width
        size = size + 1
    return [used, size]


def counted(most, found):
    """How many were found, then they; -1 where these are more than most."""
    if len(found) > most:
        return [-1]
    return [len(found)] + found


def units_of(c):
    if c < FIRST_OF_TWO_UNITS:
        return [c]
    above = c - FIRST_OF_TWO_UNITS
    return [FIRST_HALF + (above >> 10), SECOND_HALF + (above & 0x3FF)]


def to16(most, text):
    units = []
    for c in text:
        if not is_character(c):
            return [-1]
        units.extend(units_of(c))
    return counted(most, units)


def is_pair_at(units, k):
    if k + 1 == len(units):
        return False
    return FIRST_HALF <= units[k] < FIRST_HALF + 0x400 and SECOND_HALF <= units[k + 1] < SECOND_HALF + 0x400


def character_of_pair(first, second):
    return FIRST_OF_TWO_UNITS + ((first - FIRST_HALF) << 10) + (second - SECOND_HALF)


def from16(most, units):
    text = []
    k = 0
    while k < len(units):
        if is_pair_at(units, k):
            text.append(character_of_pair(units[k], units[k + 1]))
            k = k + 2
        elif is_character(units[k]):
            text.append(units[k])
            k = k + 1
        else:
            # Just the halves are no characters, so this is one without the other.
            return [-1]
    return counted(most, text)


def literal(most, text):
    octets = []
    for c in text:
        if not is_character(c):
            return [-1]
        octets.extend(octets_of(c))
    return counted(most, octets)


def unliteral(most, octets):
    text = []
    place = 0
    while place < len(octets):
        found = character_at(octets, place)
        if not is_character(found[0]):
            return [-1, place]
        text.append(found[0])
        place = found[1]
    # Asked at the end alone: what doesn't fit is told ahead of what is too much.
    if len(text) > most:
        return [-1, place]
    return [len(text)] + text
