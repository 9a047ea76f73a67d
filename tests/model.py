"""The document once more, sentence by sentence and without regard to speed, to hold the program against."""

import re

NAME = rb"[a-z0-9_-]{1,24}"
PATH = re.compile(rb"(?:" + NAME + rb")(?:\." + NAME + rb"){0,7}\Z")
SECTION = re.compile(rb"\[[ \t]*(.*?)[ \t]*\]\Z", re.S)
SETTING = re.compile(rb"([a-z0-9_.-]+)[ \t]*(?:(~)|([=!])[ \t]*(.*))\Z", re.S)
NUMBER = re.compile(rb"(0|-?[1-9][0-9]*)\Z")
PIECE = rb'[^\x00-\x1f\x7f"\\]|\\["\\nt]|\\x[0-9a-f]{2}'
TEXT = re.compile(rb'"((?:' + PIECE + rb')*)"\Z', re.S)
ESCAPES = {b'\\"': b'"', b"\\\\": b"\\", b"\\n": b"\n", b"\\t": b"\t"}


def is_path(row):
    return len(row) <= 127 and PATH.match(row) is not None


def touch(p, q):
    return p == q or p.startswith(q + b".") or q.startswith(p + b".")


def unescape(piece):
    if piece in ESCAPES:
        return ESCAPES[piece]
    return bytes([int(piece[2:], 16)]) if piece.startswith(b"\\x") else piece


def read_value(written):
    if written in (b"true", b"false"):
        return (2, [int(written == b"true")])
    if NUMBER.match(written) and len(written) < 25 and -2 ** 63 <= int(written) < 2 ** 63:
        return (1, [int(written)])
    if TEXT.match(written):
        pieces = re.findall(PIECE, TEXT.match(written).group(1), re.S)
        return (3, list(b"".join(unescape(piece) for piece in pieces)))
    return None


def read_line(line, section):
    """(section, setting or None), or None if it is no line; a setting is (path, value or None, final)."""
    line = line.strip(b" \t")
    if line == b"" or line.startswith(b"#"):
        return (section, None)
    found = SECTION.match(line)
    if found:
        return (found.group(1), None) if found.group(1) == b"" or is_path(found.group(1)) else None
    found = SETTING.match(line)
    if not found:
        return None
    whole = section + b"." + found.group(1) if section else found.group(1)
    told = None if found.group(2) else read_value(found.group(4))
    if not is_path(found.group(1)) or not is_path(whole) or (told is None and not found.group(2)):
        return None
    return (section, (whole, told, found.group(3) == b"!"))


def read_text(text):
    """The settings as (path, value, final, line), or the refusal."""
    settings = []
    section = b""
    for number, line in enumerate(text.split(b"\n"), start=1):
        said = read_line(line, section)
        if said is None:
            return None, [-2, number]
        section = said[0]
        if said[1] is None:
            continue
        if any(touch(said[1][0], other[0]) for other in settings):
            return None, [-3, number]
        settings.append(said[1] + (number,))
        room = sum(len(s[0]) + (len(s[1][1]) if s[1] and s[1][0] == 3 else 0) for s in settings)
        if len(settings) > 64 or room > 4096:
            return None, [-4, number]
    return settings, [0, 0]


def write_byte(byte):
    written = {34: '\\"', 92: "\\\\", 10: "\\n", 9: "\\t"}.get(byte)
    if written is None:
        written = "\\x%02x" % byte if byte < 32 or byte == 127 else chr(byte)
    return written


def write_value(told):
    kind, numbers = told
    if kind == 3:
        return '"' + "".join(write_byte(byte) for byte in numbers) + '"'
    return str(numbers[0]) if kind == 1 else ("false", "true")[numbers[0]]


class Model:
    def __init__(self):
        self.records = [[[], [], [], []], [[], [], [], []]]

    def barred(self, k, layer, setting):
        for weaker in range(layer):
            for other in self.records[k][weaker]:
                if other[2] and touch(other[0], setting[0]) and not self.barred(k, weaker, other):
                    return True
        return False

    def hidden(self, k, layer, setting):
        for stronger in range(layer + 1, 4):
            for other in self.records[k][stronger]:
                if touch(other[0], setting[0]) and not self.barred(k, stronger, other):
                    return True
        return False

    def holding(self, k):
        return [
            (layer, setting)
            for layer in range(4)
            for setting in self.records[k][layer]
            if setting[1] and not self.barred(k, layer, setting) and not self.hidden(k, layer, setting)
        ]

    def load(self, k, layer, text):
        if k > 1 or layer > 3:
            return [-1]
        if len(text) > 8192:
            return [-5]
        settings, answer = read_text(text)
        if settings is not None:
            self.records[k][layer] = settings
        return answer

    def drop(self, k, layer):
        if k > 1 or layer > 3:
            return [-1]
        self.records[k][layer] = []
        return [0, 0]

    def kind(self, k, path):
        if k > 1 or not is_path(path):
            return [-1]
        for layer, setting in self.holding(k):
            if setting[0] == path:
                return [0, setting[1][0]]
        return [0, 4 if any(s[0].startswith(path + b".") for layer, s in self.holding(k)) else 0]

    def value(self, k, path):
        if k > 1 or not is_path(path):
            return [-1]
        for layer, setting in self.holding(k):
            if setting[0] == path:
                return [0, setting[1][0]] + setting[1][1]
        return [-2]

    def origin(self, k, path):
        if k > 1 or not is_path(path):
            return [-1]
        for layer, setting in self.holding(k):
            if setting[0] == path:
                return [0, layer, setting[3]]
        return [-2]

    def why(self, k, layer, path):
        if k > 1 or layer > 3 or not is_path(path):
            return [-1]
        for setting in self.records[k][layer]:
            if setting[0] == path:
                if self.barred(k, layer, setting):
                    return [0, 3]
                if setting[1] is None:
                    return [0, 4]
                return [0, 2 if self.hidden(k, layer, setting) else 1]
        return [0, 0]

    def after(self, k, row):
        if k > 1 or len(row) > 127:
            return [-1]
        return [0] + list(min([s[0] for layer, s in self.holding(k) if s[0] > row], default=b""))

    def printed(self, k):
        if k > 1:
            return [-1]
        lines = sorted((s[0], write_value(s[1])) for layer, s in self.holding(k))
        return [0] + [byte for path, written in lines for byte in path + b" = " + written.encode("latin-1") + b"\n"]

    def count(self, k):
        return [-1] if k > 1 else [0, len(self.holding(k))]

    def same(self):
        one, other = [{s[0]: s[1] for layer, s in self.holding(k)} for k in (0, 1)]
        return [0, int(one == other)]
