"""How characters are written between the quotation marks of C."""

QUOTATION = 0x22
BACKSLASH = 0x5C
SMALL_U = 0x75
SMALL_X = 0x78
CAPITAL_U = 0x55

# Stands for what doesn't fit. An escape may have this value too, but as it is no character, that doesn't fit either.
NO_CHARACTER = 0xFFFFFFFF

DIGITS = "0123456789ABCDEF"

# The letter that stands behind the backslash for each of these characters.
LETTER_OF = {
    0x07: 0x61,
    0x08: 0x62,
    0x09: 0x74,
    0x0A: 0x6E,
    0x0B: 0x76,
    0x0C: 0x66,
    0x0D: 0x72,
    0x22: 0x22,
    0x5C: 0x5C,
}

# The other way, with two more that may stand behind a backslash but needn't.
CHARACTER_OF = {
    0x22: 0x22,
    0x27: 0x27,
    0x3F: 0x3F,
    0x5C: 0x5C,
    0x61: 0x07,
    0x62: 0x08,
    0x66: 0x0C,
    0x6E: 0x0A,
    0x72: 0x0D,
    0x74: 0x09,
    0x76: 0x0B,
}


def is_printed(c):
    return 0x20 <= c <= 0x7E


def digits_of(value, base, size):
    """The last digits of the value, so many, with zeros ahead where it has fewer."""
    digits = []
    rest = value
    while len(digits) < size:
        digits.append(ord(DIGITS[rest % base]))
        rest = rest // base
    digits.reverse()
    return digits


def octets_of(c):
    """The bytes of one character, which must be one."""
    if c in LETTER_OF:
        return [BACKSLASH, LETTER_OF[c]]
    if is_printed(c):
        return [c]
    if c < 0x80:
        # All three digits stand, so that a digit behind them is none of theirs.
        return [BACKSLASH] + digits_of(c, 8, 3)
    if c < 0x10000:
        return [BACKSLASH, SMALL_U] + digits_of(c, 16, 4)
    return [BACKSLASH, CAPITAL_U] + digits_of(c, 16, 8)


def digit_of_octet(octet):
    """What a digit, a capital or a small letter stands for; 16, more than any digit has, where it is none."""
    if 0x30 <= octet <= 0x39:
        return octet - 0x30
    if 0x41 <= octet <= 0x46:
        return octet - 0x41 + 10
    if 0x61 <= octet <= 0x66:
        return octet - 0x61 + 10
    return 16


def digits_at(octets, start, base, fewest, most):
    """The value of the longest row of digits from start on, at most so many, and the place behind it."""
    value = 0
    end = start
    while end < len(octets) and end < start + most and digit_of_octet(octets[end]) < base:
        value = value * base + digit_of_octet(octets[end])
        end = end + 1
    if end < start + fewest:
        return (NO_CHARACTER, start)
    return (value, end)


def escape_at(octets, start):
    """The character of the escape whose backslash stands right ahead of start, and the place behind the escape."""
    if start == len(octets):
        return (NO_CHARACTER, start)
    letter = octets[start]
    if letter in CHARACTER_OF:
        return (CHARACTER_OF[letter], start + 1)
    if letter == SMALL_X:
        return digits_at(octets, start + 1, 16, 1, 8)
    if letter == SMALL_U:
        return digits_at(octets, start + 1, 16, 4, 4)
    if letter == CAPITAL_U:
        return digits_at(octets, start + 1, 16, 8, 8)
    return digits_at(octets, start, 8, 1, 3)


def character_at(octets, place):
    """The character that is written from the place on, and the place behind it; NO_CHARACTER where nothing fits."""
    octet = octets[place]
    if octet == BACKSLASH:
        return escape_at(octets, place + 1)
    if is_printed(octet) and octet != QUOTATION:
        return (octet, place + 1)
    return (NO_CHARACTER, place)
