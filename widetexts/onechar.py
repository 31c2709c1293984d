"""What is asked of one character; each answer is one whole number."""

# A stretch is (first, last), both ends within it.
NO_CHARACTERS = (
    (0xD800, 0xDFFF),
    (0x110000, 0xFFFFFFFF),
)

BLANKS = (
    (0x9, 0xD),
    (0x20, 0x20),
    (0x85, 0x85),
    (0xA0, 0xA0),
    (0x2000, 0x200A),
    (0x2028, 0x2029),
    (0x202F, 0x202F),
    (0x3000, 0x3000),
)

CONTROLS = (
    (0x0, 0x1F),
    (0x7F, 0x9F),
)

# Each is the 0 of a row of ten digits.
DIGIT_ZEROS = (0x30, 0x660, 0x6F0, 0x966, 0xFF10)

LETTERS = (
    (0x41, 0x5A),
    (0x61, 0x7A),
    (0xC0, 0xD6),
    (0xD8, 0xF6),
    (0xF8, 0xFF),
    (0x178, 0x178),
    (0x17F, 0x17F),
    (0x391, 0x3A1),
    (0x3A3, 0x3A9),
    (0x3B1, 0x3C9),
    (0x400, 0x45F),
    (0x5D0, 0x5EA),
    (0x212A, 0x212A),
    (0x4E00, 0x9FFF),
    (0xAC00, 0xD7A3),
    (0xFF21, 0xFF3A),
    (0xFF41, 0xFF5A),
)

MARKS = (
    (0x300, 0x36F),
)

SIGNS = (
    (0x21, 0x2F),
    (0x3A, 0x40),
    (0x5B, 0x60),
    (0x7B, 0x7E),
)

NO_COLUMNS = (
    (0x300, 0x36F),
    (0x200B, 0x200D),
    (0xFE00, 0xFE0F),
)

TWO_COLUMNS = (
    (0x1100, 0x115F),
    (0x2E80, 0x303E),
    (0x3041, 0x4DBF),
    (0x4E00, 0x9FFF),
    (0xAC00, 0xD7A3),
    (0xF900, 0xFAFF),
    (0xFF01, 0xFF60),
    (0xFFE0, 0xFFE6),
    (0x1F300, 0x1F64F),
    (0x20000, 0x3FFFD),
)

# A row of the two tables below is (first, last, what the first turns into);
# the others of the stretch turn into what follows that, in step.
TO_SMALL = (
    (0x41, 0x5A, 0x61),
    (0xC0, 0xD6, 0xE0),
    (0xD8, 0xDE, 0xF8),
    (0x178, 0x178, 0xFF),
    (0x17F, 0x17F, 0x73),
    (0x391, 0x3A1, 0x3B1),
    (0x3A3, 0x3A9, 0x3C3),
    (0x3C2, 0x3C2, 0x3C3),
    (0x400, 0x40F, 0x450),
    (0x410, 0x42F, 0x430),
    (0x212A, 0x212A, 0x6B),
    (0xFF21, 0xFF3A, 0xFF41),
)

TO_CAPITAL = (
    (0x61, 0x7A, 0x41),
    (0xE0, 0xF6, 0xC0),
    (0xF8, 0xFE, 0xD8),
    (0xFF, 0xFF, 0x178),
    (0x17F, 0x17F, 0x53),
    (0x3B1, 0x3C1, 0x391),
    (0x3C2, 0x3C2, 0x3A3),
    (0x3C3, 0x3C9, 0x3A3),
    (0x430, 0x44F, 0x410),
    (0x450, 0x45F, 0x400),
    (0xFF41, 0xFF5A, 0xFF21),
)


def is_within(c, stretches):
    for first, last in stretches:
        if first <= c <= last:
            return True
    return False


def is_character(c):
    return not is_within(c, NO_CHARACTERS)


def is_blank(c):
    return is_within(c, BLANKS)


def digit_zero(c):
    """The 0 of the row of ten that c stands in; -1 where c is no digit."""
    for zero in DIGIT_ZEROS:
        if zero <= c <= zero + 9:
            return zero
    return -1


def digit_value(c):
    zero = digit_zero(c)
    if zero < 0:
        return -1
    return c - zero


def is_digit(c):
    return digit_zero(c) >= 0


def class_number(c):
    # The order counts: some characters stand in two tables, and the first that fits is answered.
    if not is_character(c):
        return 7
    if is_blank(c):
        return 3
    if is_within(c, CONTROLS):
        return 4
    if is_digit(c):
        return 2
    if is_within(c, LETTERS):
        return 1
    if is_within(c, MARKS):
        return 5
    if is_within(c, SIGNS):
        return 6
    return 0


def turned(c, rows):
    for first, last, turned_first in rows:
        if first <= c <= last:
            return c - first + turned_first
    return c


def small_letter(c):
    return turned(c, TO_SMALL)


def capital(c):
    return turned(c, TO_CAPITAL)


def column_count(c):
    # The table is asked, not the class: 9 to D and 85 have the class of blanks, but are -1 here too.
    if not is_character(c) or is_within(c, CONTROLS):
        return -1
    if is_within(c, NO_COLUMNS):
        return 0
    if is_within(c, TWO_COLUMNS):
        return 2
    return 1
