"""Paths: which rows of bytes are paths, and which paths touch."""

DASH = 45
DOT = 46
UNDERSCORE = 95
NAME_MOST = 24
NAMES_MOST = 8
PATH_MOST = 127


def is_digit(byte):
    return 48 <= byte <= 57


def is_name_byte(byte):
    return 97 <= byte <= 122 or is_digit(byte) or byte == DASH or byte == UNDERSCORE


def is_name(row):
    if len(row) < 1 or len(row) > NAME_MOST:
        return False
    return all([is_name_byte(byte) for byte in row])


def split_names(row):
    names = []
    start = 0
    for at, byte in enumerate(row):
        if byte == DOT:
            names.append(row[start:at])
            start = at + 1
    names.append(row[start:])
    return names


def is_path(row):
    if len(row) > PATH_MOST:
        return False
    names = split_names(row)
    return len(names) <= NAMES_MOST and all([is_name(name) for name in names])


def paths_above(path):
    """The shorter paths that, followed by a '.', begin this one."""
    return [path[:at] for at, byte in enumerate(path) if byte == DOT]


class PathStore:
    """Paths, kept with those above them: touching is then a look for each name, not for each path that is kept."""

    def __init__(self):
        self.kept = {}
        self.above = {}

    def keep(self, path):
        self.kept[path] = True
        for shorter in paths_above(path):
            self.above[shorter] = True

    def has_below(self, path):
        return path in self.above

    def touches(self, path):
        if path in self.kept or path in self.above:
            return True
        return any([shorter in self.kept for shorter in paths_above(path)])
