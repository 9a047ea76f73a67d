"""Values as a text writes them: numbers, flags and quoted texts."""

from saylayers.paths import DASH, is_digit

NUMBER = 1
FLAG = 2
TEXT = 3

TRUE_WORD = (116, 114, 117, 101)
FALSE_WORD = (102, 97, 108, 115, 101)

ZERO = 48
DIGITS_MOST = 19
MOST_ABOVE_ZERO = 9223372036854775807
MOST_BELOW_ZERO = 9223372036854775808

QUOTE = 34
BACKSLASH = 92
SMALL_X = 120
DELETE = 127
SHORT_ESCAPES = {34: 34, 92: 92, 110: 10, 116: 9}


class Value:
    """A value: its kind, and the numbers by which it is told."""

    def __init__(self, kind, told):
        self.kind = kind
        self.told = told


class Escape:
    """An escape that was read: the byte it stands for, and where the text goes on behind it."""

    def __init__(self, byte, end):
        self.byte = byte
        self.end = end


def same_value(one, other):
    return one.kind == other.kind and one.told == other.told


def read_value(row):
    """The value that the whole row writes, or None."""
    if row == TRUE_WORD:
        return Value(FLAG, (1,))
    if row == FALSE_WORD:
        return Value(FLAG, (0,))
    if row[:1] == (QUOTE,):
        return read_quoted(row)
    return read_number(row)


def read_number(row):
    negative = row[:1] == (DASH,)
    digits = row[1:] if negative else row
    if not are_number_digits(digits):
        return None
    if negative and digits[0] == ZERO:
        return None
    size = digits_size(digits)
    most = MOST_BELOW_ZERO if negative else MOST_ABOVE_ZERO
    if size > most:
        return None
    number = -size if negative else size
    return Value(NUMBER, (number,))


def are_number_digits(digits):
    # More digits than the range's ends have are out of range whatever they are; they are not worth adding up.
    if len(digits) < 1 or len(digits) > DIGITS_MOST:
        return False
    if digits[0] == ZERO and len(digits) > 1:
        return False
    return all([is_digit(byte) for byte in digits])


def digits_size(digits):
    size = 0
    for byte in digits:
        size = size * 10 + byte - ZERO
    return size


def read_quoted(row):
    content = []
    at = 1
    while at < len(row):
        byte = row[at]
        if byte == QUOTE:
            return Value(TEXT, tuple(content)) if at + 1 == len(row) else None
        if byte == BACKSLASH:
            escape = read_escape(row, at)
            if escape is None:
                return None
            content.append(escape.byte)
            at = escape.end
        elif stands_for_itself(byte):
            content.append(byte)
            at += 1
        else:
            return None
    return None


def stands_for_itself(byte):
    return byte >= 32 and byte != DELETE and byte != QUOTE and byte != BACKSLASH


def read_escape(row, at):
    """The escape whose backslash stands at this place, or None."""
    if at + 1 >= len(row):
        return None
    sign = row[at + 1]
    if sign in SHORT_ESCAPES:
        return Escape(SHORT_ESCAPES[sign], at + 2)
    if sign != SMALL_X or at + 3 >= len(row):
        return None
    high = hex_digit(row[at + 2])
    low = hex_digit(row[at + 3])
    if high is None or low is None:
        return None
    return Escape(high * 16 + low, at + 4)


def hex_digit(byte):
    if is_digit(byte):
        return byte - ZERO
    if 97 <= byte <= 102:
        return byte - 87
    return None
