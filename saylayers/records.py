"""The calls on two records of layers, and their answers."""

from saylayers.holding import LAYERS, Record
from saylayers.layers import read_layer
from saylayers.paths import is_path

LOAD = 1
DROP = 2
KIND = 3
VALUE = 4

# By a call's number, what stands behind its k.
WITH_LAYER = {1: True, 2: True, 3: False, 4: False, 5: False}
WITH_ROW = {1: True, 2: False, 3: True, 4: True, 5: True}

OUT_OF_BOUNDS = -1
NOTHING_HOLDS = -2
TEXT_TOO_LONG = -5

RECORDS = 2
TEXT_MOST = 8192
KIND_BELOW = 4


class Call:
    """One call: its number, what is handed to it, and where the next one begins."""

    def __init__(self, number, k, layer, row, end):
        self.number = number
        self.k = k
        self.layer = layer
        self.row = row
        self.end = end


def answers(calls):
    records = [Record() for k in range(RECORDS)]
    told = []
    at = 0
    while at < len(calls):
        call = read_call(calls, at)
        answer = answer_call(records, call)
        told.append(len(answer))
        told.extend(answer)
        at = call.end
    return told


def read_call(calls, at):
    number = calls[at]
    k = calls[at + 1]
    layer = 0
    row = ()
    end = at + 2
    if WITH_LAYER[number]:
        layer = calls[end]
        end += 1
    if WITH_ROW[number]:
        start = end + 1
        end = start + calls[end]
        row = tuple(calls[start:end])
    return Call(number, k, layer, row, end)


def answer_call(records, call):
    if call.k >= RECORDS:
        return [OUT_OF_BOUNDS]
    record = records[call.k]
    if WITH_LAYER[call.number] and call.layer >= LAYERS:
        return [OUT_OF_BOUNDS]
    if call.number == LOAD:
        return load(record, call.layer, call.row)
    if call.number == DROP:
        return drop(record, call.layer)
    return answer_at_path(record, call.number, call.row)


def answer_at_path(record, number, path):
    if not is_path(path):
        return [OUT_OF_BOUNDS]
    held = record.held_at(path)
    if number == KIND:
        return tell_kind(record, path, held)
    if held is None:
        return [NOTHING_HOLDS]
    if number == VALUE:
        return tell_value(held)
    return tell_origin(held)


def load(record, layer, text):
    if len(text) > TEXT_MOST:
        return [TEXT_TOO_LONG]
    loaded = read_layer(text)
    if loaded.refusal != 0:
        return [loaded.refusal, loaded.line]
    record.place(layer, loaded.settings)
    return [0, 0]


def drop(record, layer):
    record.place(layer, [])
    return [0, 0]


def tell_kind(record, path, held):
    if held is not None:
        return [0, held.setting.value.kind]
    return [0, KIND_BELOW if record.holds_below(path) else 0]


def tell_value(held):
    value = held.setting.value
    return [0, value.kind] + list(value.told)


def tell_origin(held):
    return [0, held.layer, held.setting.line]
