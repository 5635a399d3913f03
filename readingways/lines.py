"""Lines, their parts and their numbers, as both kinds of text have them."""

LINE_END = 0x0A
BLANK = 0x20
DIGIT_ZERO = 0x30
DIGIT_NINE = 0x39
MOST_SORT = 255
MOST_COST = 65535


def lines_of(text):
    """The lines, each with its 0AH: so a last line that lacks it shows that by itself."""
    lines = []
    line = []
    for octet in text:
        line.append(octet)
        if octet == LINE_END:
            lines.append(line)
            line = []
    if line != []:
        lines.append(line)
    return lines


def is_ended(line):
    return line[-1] == LINE_END


def parts_of(row):
    """What stands between the blanks; a part may be empty."""
    parts = []
    part = []
    for sign in row:
        if sign == BLANK:
            parts.append(part)
            part = []
        else:
            part.append(sign)
    parts.append(part)
    return parts


def is_number(part):
    for sign in part:
        if not DIGIT_ZERO <= sign <= DIGIT_NINE:
            return False
    if len(part) == 0:
        return False
    return len(part) == 1 or part[0] != DIGIT_ZERO


def value_of(digits):
    """What the digits tell, but 100,000 for all numbers of six digits and more."""
    # No limit is as high, so a part as long as the whole text needs no reckoning.
    if len(digits) > 5:
        return 100000
    value = 0
    for digit in digits:
        value = value * 10 + digit - DIGIT_ZERO
    return value


def values_of(parts):
    """The numbers that the parts tell; None if one of them is no number."""
    for part in parts:
        if not is_number(part):
            return None
    return [value_of(part) for part in parts]


def line_of(numbers):
    """The line that tells these numbers."""
    signs = " ".join([str(number) for number in numbers])
    return [ord(sign) for sign in signs] + [LINE_END]
