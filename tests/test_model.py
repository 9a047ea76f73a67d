"""Rows of calls made by chance, but the same ones every time, held against the document's words written out anew."""

import itertools
import random
import unittest

from tests.helper import after, count, drop, kind, load, origin, path_of, printed, row, run, same, value, why
from tests.model import Model, touch

NAMES = ("a", "b", "c")
BLANKS = (b"", b"", b" ", b"\t", b"  ")
VALUES = (
    b"0", b"-0", b"1", b"-17", b"01", b"9223372036854775807", b"9223372036854775808", b"-9223372036854775808", b"true",
    b"false", b"True", b'""', b'"x"', b'"\\n\\t\\"\\\\"', b'"\\x7f\\xc3"', b'"\xff"', b'"\\q"', b'"\\xA0"', b'"x', b"",
)
GOOD_VALUES = (b"0", b"-5", b"true", b"false", b'"x"', b'"\\x00"')
SIGNS = b'ab._-01=!~[]#"\\xnt \t\n\x00\x7f\xe9'


class Maker:
    def __init__(self, seed):
        self.chance = random.Random(seed)

    def path(self):
        names = [self.chance.choice(NAMES) for place in range(self.chance.choice((1, 1, 2, 2, 3)))]
        return ".".join(names).encode()

    def long_path(self):
        return path_of(self.chance.choice((1, 2, 24, 25, 49, 60, 63, 64, 100, 126, 127, 128))).encode()

    def blank(self):
        return self.chance.choice(BLANKS)

    def line(self, wrong):
        turn = self.chance.randrange(12)
        path = self.long_path() if turn == 0 else self.path()
        if turn == 1:
            return self.blank() + b"[" + self.blank() + path + self.blank() + b"]" + self.blank()
        if turn == 2:
            return self.chance.choice((b"[]", b"# x", b"", b" ", b"[ ]"))
        if turn == 3 and wrong:
            return bytes(self.chance.choice(SIGNS) for place in range(self.chance.randrange(8)))
        if turn in (4, 5):
            return self.blank() + path + self.blank() + b"~" + self.blank()
        sign = self.chance.choice((b"=", b"=", b"!"))
        written = self.chance.choice(VALUES if wrong else GOOD_VALUES)
        return self.blank() + path + self.blank() + sign + self.blank() + written + self.blank()

    def text(self):
        wrong = self.chance.randrange(4) == 0
        return b"\n".join(self.line(wrong) for place in range(self.chance.randrange(5)))

    def noise(self):
        return bytes(self.chance.choice(SIGNS) for place in range(self.chance.randrange(12)))

    def layer(self):
        return self.chance.choice((0, 1, 2, 3, 0, 1, 2, 3, 4))

    def k(self):
        return self.chance.choice((0, 0, 0, 0, 1, 1, 2))


class ModelTest(unittest.TestCase):
    def compare(self, seed, steps):
        maker = Maker(seed)
        model = Model()
        calls = []
        expected = []
        for step in range(steps):
            turn = maker.chance.randrange(10)
            k = maker.k()
            if turn < 3:
                layer, text = maker.layer(), maker.text()
                calls.append(load(k, layer, text))
                expected.append(model.load(k, layer, text))
            elif turn == 3:
                layer = maker.layer()
                calls.append(drop(k, layer))
                expected.append(model.drop(k, layer))
            else:
                path = maker.noise() if turn == 4 else maker.path()
                layer = maker.layer()
                calls += [kind(k, path), value(k, path), origin(k, path), why(k, layer, path), after(k, path)]
                expected += [model.kind(k, path), model.value(k, path), model.origin(k, path)]
                expected += [model.why(k, layer, path), model.after(k, path)]
                calls += [printed(k), count(k), same()]
                expected += [model.printed(k), model.count(k), model.same()]
        self.assertEqual(run(*calls), expected, seed)

    def test_rows_of_calls(self):
        for seed in range(400):
            self.compare(seed, 50)

    def test_texts_of_noise(self):
        chance = random.Random(1)
        taken = 0
        for turn in range(20000):
            text = bytes(chance.choice(SIGNS) for place in range(chance.randrange(1, 9)))
            expected = Model().load(0, 0, text)
            taken += expected == [0, 0]
            self.assertEqual(run(load(0, 0, text))[0], expected, text)
        self.assertGreater(taken, 1000)

    def test_values_of_noise(self):
        chance = random.Random(2)
        for turn in range(20000):
            text = b"a=" + bytes(chance.choice(b'"\\xnt0189af-q \xff\x01') for place in range(chance.randrange(1, 8)))
            if turn % 2:
                text = b'a="' + text[2:] + b'"'
            model = Model()
            expected = [model.load(0, 0, text), model.value(0, b"a")]
            self.assertEqual(run(load(0, 0, text), value(0, "a")), expected, text)

    def test_every_path_there_is(self):
        """All paths of the three names, asked of layers made by chance."""
        paths = list(NAMES) + [p + "." + q for p in NAMES for q in NAMES]
        paths += [p + "." + q for p in paths[3:] for q in NAMES]
        for seed in range(100):
            maker = Maker(seed + 1000)
            model = Model()
            texts = [maker.text() for layer in range(4)]
            calls = [load(0, layer, text) for layer, text in enumerate(texts)]
            expected = [model.load(0, layer, text) for layer, text in enumerate(texts)]
            for path in paths:
                calls += [value(0, path), origin(0, path), kind(0, path)]
                expected += [asked(0, bytes(row(path))) for asked in (model.value, model.origin, model.kind)]
            told = run(*calls)
            self.assertEqual(told, expected, texts)
            self.no_two_touch([path for place, path in enumerate(paths) if told[4 + 3 * place][0] == 0])

    def test_why_at_every_path_there_is(self):
        paths = [".".join(names) for size in (1, 2) for names in itertools.product(NAMES, repeat=size)]
        found = []
        for seed in range(400):
            maker = Maker(seed + 2000)
            model = Model()
            texts = [maker.text() for layer in range(4)]
            calls = [load(0, layer, text) for layer, text in enumerate(texts)]
            expected = [model.load(0, layer, text) for layer, text in enumerate(texts)]
            calls += [why(0, layer, path) for path in paths for layer in range(4)]
            expected += [model.why(0, layer, bytes(row(path))) for path in paths for layer in range(4)]
            self.assertEqual(run(*calls), expected, texts)
            found += [answer[1] for answer in expected[4:]]
        self.assertGreater(min(found.count(becomes) for becomes in range(5)), 20)

    def test_records_that_are_often_the_same(self):
        chance = random.Random(3)
        values = ("1", "true", "\"1\"", "\"true\"")
        found = []
        for turn in range(2000):
            model = Model()
            calls = []
            for k in (0, 1):
                for layer in (0, 1):
                    lines = [f"{name} {chance.choice('=!')} {chance.choice(values)}" for name in "ab" if chance.randrange(3)]
                    chance.shuffle(lines)
                    text = "\n".join(lines)
                    calls.append(load(k, layer, text))
                    model.load(k, layer, text.encode())
            found.append(run(*calls, same())[4])
            self.assertEqual(found[-1], model.same(), calls)
        self.assertGreater(found.count([0, 1]), 50)

    def test_what_is_printed_reads_back(self):
        """T5 over layers made by chance."""
        for seed in range(300):
            maker = Maker(seed + 3000)
            loads = [load(0, layer, maker.text()) for layer in range(4)]
            text = run(*loads, printed(0))[4][1:]
            told = run(*loads, load(1, seed % 4, text), printed(1), same(), count(0), count(1))[4:]
            self.assertEqual(told[:3], [[0, 0], [0] + text, [0, 1]])
            self.assertEqual(told[3], told[4])

    def test_walking_meets_what_is_printed(self):
        for seed in range(100):
            maker = Maker(seed + 4000)
            loads = [load(0, layer, maker.text()) for layer in range(4)]
            lines = bytes(run(*loads, printed(0))[4][1:]).split(b"\n")[:-1]
            path = b""
            for line in lines:
                path = bytes(run(*loads, after(0, path))[4][1:])
                self.assertEqual(path, line.partition(b" ")[0])
            self.assertEqual(run(*loads, after(0, path), count(0))[4:], [[0], [0, len(lines)]])

    def no_two_touch(self, paths):
        for p in paths:
            for q in paths:
                self.assertFalse(p != q and touch(bytes(row(p)), bytes(row(q))), (p, q))
