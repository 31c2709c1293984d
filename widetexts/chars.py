"""The calls on wide characters and their texts; each answers with a list of whole numbers."""

from widetexts.onechar import capital, class_number, column_count, digit_value, is_digit, small_letter


def class_of(c):
    return [class_number(c)]


def fold(c):
    return [small_letter(c)]


def upper(c):
    return [capital(c)]


def digit(c):
    return [digit_value(c)]


def columns(c):
    return [column_count(c)]


def order_of(x, y):
    """Which of two numbers comes first; of two lists of numbers, item by item, the one that has ended comes first."""
    if x < y:
        return -1
    if x > y:
        return 1
    return 0


def digits_end(text, start):
    """The place behind the longest row of digits that begins at start; start itself where no digit is there."""
    end = start
    while end < len(text) and is_digit(text[end]):
        end = end + 1
    return end


def values_of_row(row):
    """What the digits stand for, without the zeros ahead: those make a row longer, but not a greater number."""
    values = []
    for c in row:
        value = digit_value(c)
        if value > 0 or len(values) > 0:
            values.append(value)
    return values


def order_of_rows(row, other_row):
    values = values_of_row(row)
    other_values = values_of_row(other_row)
    order = order_of(len(values), len(other_values))
    if order != 0:
        return order
    return order_of(values, other_values)


def order_by_sense(a, b):
    """The order of two texts in which rows of digits are numbers, and capitals are like their small letters."""
    i = 0
    j = 0
    while i < len(a) and j < len(b):
        i_end = digits_end(a, i)
        j_end = digits_end(b, j)
        if i_end > i and j_end > j:
            order = order_of_rows(a[i:i_end], b[j:j_end])
        elif i_end > i:
            order = -1
        elif j_end > j:
            order = 1
        else:
            order = order_of(small_letter(a[i]), small_letter(b[j]))
        if order != 0:
            return order
        i = max(i_end, i + 1)
        j = max(j_end, j + 1)
    return order_of(len(a) - i, len(b) - j)


def compare(a, b):
    order = order_by_sense(a, b)
    if order == 0:
        order = order_of(a, b)
    return [order]
