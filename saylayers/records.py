"""The calls on two records of layers, and their answers."""

from saylayers.holding import LAYERS, Record, hold_the_same
from saylayers.layers import read_layer
from saylayers.paths import PATH_MOST, is_path
from saylayers.writing import write_settings

LOAD = 1
DROP = 2
KIND = 3
VALUE = 4
NEXT = 7
PRINT = 8
COUNT = 9
SAME = 10

# By their numbers, the calls that have a layer behind their k, and those that have a row.
WITH_LAYER = (1, 2, 6)
WITH_ROW = (1, 3, 4, 5, 6, 7)

OUT_OF_BOUNDS = -1
NOTHING_HOLDS = -2
TEXT_TOO_LONG = -5

RECORDS = 2
TEXT_MOST = 8192
KIND_BELOW = 4


class Call:
    """One call: its number, what is handed to it, and where the next one begins."""

    def __init__(self, number, k, layer, row, end):
        self.number = number
        self.k = k
        self.layer = layer
        self.row = row
        self.end = end


def answers(calls):
    records = [Record() for k in range(RECORDS)]
    told = []
    at = 0
    while at < len(calls):
        call = read_call(calls, at)
        answer = answer_call(records, call)
        told.append(len(answer))
        told.extend(answer)
        at = call.end
    return told


def read_call(calls, at):
    number = calls[at]
    if number == SAME:
        return Call(number, 0, 0, (), at + 1)
    k = calls[at + 1]
    layer = 0
    row = ()
    end = at + 2
    if number in WITH_LAYER:
        layer = calls[end]
        end += 1
    if number in WITH_ROW:
        start = end + 1
        end = start + calls[end]
        row = tuple(calls[start:end])
    return Call(number, k, layer, row, end)


def answer_call(records, call):
    if call.number == SAME:
        return tell_same(records)
    if call.k >= RECORDS:
        return [OUT_OF_BOUNDS]
    record = records[call.k]
    if call.number in WITH_LAYER:
        return answer_at_layer(record, call)
    if call.number == NEXT:
        return tell_next(record, call.row)
    if call.number == PRINT:
        return tell_text(record)
    if call.number == COUNT:
        return tell_count(record)
    return answer_at_path(record, call.number, call.row)


def answer_at_layer(record, call):
    if call.layer >= LAYERS:
        return [OUT_OF_BOUNDS]
    if call.number == LOAD:
        return load(record, call.layer, call.row)
    if call.number == DROP:
        return drop(record, call.layer)
    return tell_why(record, call.layer, call.row)


def answer_at_path(record, number, path):
    if not is_path(path):
        return [OUT_OF_BOUNDS]
    held = record.held_at(path)
    if number == KIND:
        return tell_kind(record, path, held)
    if held is None:
        return [NOTHING_HOLDS]
    if number == VALUE:
        return tell_value(held)
    return tell_origin(held)


def load(record, layer, text):
    if len(text) > TEXT_MOST:
        return [TEXT_TOO_LONG]
    loaded = read_layer(text)
    if loaded.refusal != 0:
        return [loaded.refusal, loaded.line]
    record.place(layer, loaded.settings)
    return [0, 0]


def drop(record, layer):
    record.place(layer, [])
    return [0, 0]


def tell_kind(record, path, held):
    if held is not None:
        return [0, held.setting.value.kind]
    return [0, KIND_BELOW if record.holds_below(path) else 0]


def tell_value(held):
    value = held.setting.value
    return [0, value.kind] + list(value.told)


def tell_origin(held):
    return [0, held.layer, held.setting.line]


def tell_why(record, layer, path):
    if not is_path(path):
        return [OUT_OF_BOUNDS]
    return [0, record.standing(layer, path)]


def tell_next(record, row):
    if len(row) > PATH_MOST:
        return [OUT_OF_BOUNDS]
    return [0] + list(record.first_behind(row))


def tell_text(record):
    return [0] + write_settings(record.held_settings())


def tell_count(record):
    return [0, len(record.order)]


def tell_same(records):
    return [0, 1 if hold_the_same(records[0], records[1]) else 0]
