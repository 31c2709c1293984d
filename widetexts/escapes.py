"""How characters are written between the quotation marks of C."""

BACKSLASH = 0x5C
SMALL_U = 0x75
CAPITAL_U = 0x55

DIGITS = "0123456789ABCDEF"

# The letter that stands behind the backslash for each of these characters.
LETTER_OF = {
    0x07: 0x61,
    0x08: 0x62,
    0x09: 0x74,
    0x0A: 0x6E,
    0x0B: 0x76,
    0x0C: 0x66,
    0x0D: 0x72,
    0x22: 0x22,
    0x5C: 0x5C,
}


def is_printed(c):
    return 0x20 <= c <= 0x7E


def digits_of(value, base, size):
    """The last digits of the value, so many, with zeros ahead where it has fewer."""
    digits = []
    rest = value
    while len(digits) < size:
        digits.append(ord(DIGITS[rest % base]))
        rest = rest // base
    digits.reverse()
    return digits


def octets_of(c):
    """The bytes of one character, which must be one."""
    if c in LETTER_OF:
        return [BACKSLASH, LETTER_OF[c]]
    if is_printed(c):
        return [c]
    if c < 0x80:
        # All three digits stand, so that a digit behind them is none of theirs.
        return [BACKSLASH] + digits_of(c, 8, 3)
    if c < 0x10000:
        return [BACKSLASH, SMALL_U] + digits_of(c, 16, 4)
    return [BACKSLASH, CAPITAL_U] + digits_of(c, 16, 8)
