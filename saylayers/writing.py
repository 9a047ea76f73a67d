"""Settings written as a text, in the one form that each value has."""

from saylayers.lines import EQUALS, LINE_END, SPACE
from saylayers.literals import BACKSLASH, FALSE_WORD, NUMBER, QUOTE, SMALL_X, TEXT, TRUE_WORD, stands_for_itself

# By the byte that is told, the sign behind the backslash.
SHORT_SIGNS = {34: 34, 92: 92, 10: 110, 9: 116}
HEX_DIGITS = "0123456789abcdef"


def write_settings(settings):
    """The bytes of a text with a line for each of the settings; all of them have a value."""
    written = []
    for setting in settings:
        written.extend(setting.path)
        written.extend((SPACE, EQUALS, SPACE))
        written.extend(write_value(setting.value))
        written.append(LINE_END)
    return written


def write_value(value):
    if value.kind == NUMBER:
        return [ord(sign) for sign in str(value.told[0])]
    if value.kind == TEXT:
        return write_quoted(value.told)
    return list(TRUE_WORD if value.told[0] == 1 else FALSE_WORD)


def write_quoted(content):
    written = [QUOTE]
    for byte in content:
        if stands_for_itself(byte):
            written.append(byte)
        else:
            written.extend(write_escape(byte))
    written.append(QUOTE)
    return written


def write_escape(byte):
    if byte in SHORT_SIGNS:
        return [BACKSLASH, SHORT_SIGNS[byte]]
    return [BACKSLASH, SMALL_X, ord(HEX_DIGITS[byte // 16]), ord(HEX_DIGITS[byte % 16])]
