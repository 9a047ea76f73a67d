"""Layers: the settings of one text, or why the text is refused."""

from saylayers.lines import read_line, split_lines
from saylayers.literals import TEXT
from saylayers.paths import PathStore

NO_LINE = -2
TOUCHES_EARLIER = -3
NO_ROOM = -4

SETTINGS_MOST = 64
BYTES_MOST = 4096


class Layer:
    """The settings of one text as they are gathered; refusal (0: none) and line tell what was wrong first."""

    def __init__(self):
        self.settings = []
        self.store = PathStore()
        self.filled = 0
        self.refusal = 0
        self.line = 0

    def refuse(self, refusal, line):
        self.refusal = refusal
        self.line = line

    def take(self, setting):
        filled = self.filled + setting_size(setting)
        if self.store.touches(setting.path):
            self.refuse(TOUCHES_EARLIER, setting.line)
        elif len(self.settings) >= SETTINGS_MOST or filled > BYTES_MOST:
            self.refuse(NO_ROOM, setting.line)
        else:
            self.settings.append(setting)
            self.store.keep(setting.path)
            self.filled = filled


def setting_size(setting):
    size = len(setting.path)
    if setting.value is not None and setting.value.kind == TEXT:
        size += len(setting.value.told)
    return size


def read_layer(text):
    """The layer that the text makes; reading ends at the first line that is wrong."""
    layer = Layer()
    section = ()
    for number, row in enumerate(split_lines(text), start=1):
        line = read_line(row, section, number)
        if line is None:
            layer.refuse(NO_LINE, number)
        else:
            section = line.section
            if line.setting is not None:
                layer.take(line.setting)
        if layer.refusal != 0:
            return layer
    return layer
