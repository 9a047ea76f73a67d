"""Lines of a text: what each of them says."""

from saylayers.literals import read_value
from saylayers.paths import DOT, is_name_byte, is_path

LINE_END = 10
SPACE = 32
TAB = 9
HASH = 35
BRACKET_LEFT = 91
BRACKET_RIGHT = 93
EQUALS = 61
BANG = 33
TILDE = 126


class Setting:
    """A path, its value (None: an unsetting), whether that is final, and the number of its line."""

    def __init__(self, path, value, final, line):
        self.path = path
        self.value = value
        self.final = final
        self.line = line


class Line:
    """What a line says: the section from here on (empty: none), and its setting or None."""

    def __init__(self, section, setting):
        self.section = section
        self.setting = setting


def split_lines(text):
    rows = []
    start = 0
    for at, byte in enumerate(text):
        if byte == LINE_END:
            rows.append(text[start:at])
            start = at + 1
    rows.append(text[start:])
    return rows


def is_blank(byte):
    return byte == SPACE or byte == TAB


def strip_blanks(row):
    end = len(row)
    while end > 0 and is_blank(row[end - 1]):
        end -= 1
    return skip_blanks(row[:end])


def skip_blanks(row):
    start = 0
    while start < len(row) and is_blank(row[start]):
        start += 1
    return row[start:]


def read_line(row, section, number):
    """What the row says as the line of this number within this section; None if it is no line."""
    bare = strip_blanks(row)
    if len(bare) == 0 or bare[0] == HASH:
        return Line(section, None)
    if bare[0] == BRACKET_LEFT:
        return read_section(bare)
    return read_setting(bare, section, number)


def read_section(bare):
    if bare[len(bare) - 1] != BRACKET_RIGHT:
        return None
    path = strip_blanks(bare[1:len(bare) - 1])
    if len(path) > 0 and not is_path(path):
        return None
    return Line(path, None)


def read_setting(bare, section, number):
    end = written_path_end(bare)
    written = bare[:end]
    whole = section + (DOT,) + written if len(section) > 0 else written
    if not is_path(written) or not is_path(whole):
        return None
    rest = skip_blanks(bare[end:])
    if rest == (TILDE,):
        return Line(section, Setting(whole, None, False, number))
    if rest[:1] != (EQUALS,) and rest[:1] != (BANG,):
        return None
    value = read_value(skip_blanks(rest[1:]))
    if value is None:
        return None
    return Line(section, Setting(whole, value, rest[0] == BANG, number))


def written_path_end(bare):
    end = 0
    while end < len(bare) and (is_name_byte(bare[end]) or bare[end] == DOT):
        end += 1
    return end
