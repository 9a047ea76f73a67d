"""print: what holds, written as one text that reads back as the same settings."""

import unittest

from tests.helper import count, drop, last, load, path_of, printed, row, run, same, spelled, value

HUGE = 4294967295
TAKEN = [0, 0]


def text_of(*texts):
    """What is printed once the texts are the layers, from the weakest on."""
    return spelled(last(*[load(0, layer, text) for layer, text in enumerate(texts)], printed(0)))


class PrintTest(unittest.TestCase):
    def test_the_documents_example(self):
        told = run(load(0, 0, "a.b = 1\n[c]\nd ! \"x\""), load(0, 3, "a = true\nc.d = 5"), printed(0), printed(1))
        self.assertEqual(told[2], [0] + row("a = true\nc.d = \"x\"\n"))
        self.assertEqual(told[3], [0])

    def test_nothing_holds(self):
        self.assertEqual(run(printed(0), printed(1)), [[0], [0]])
        self.assertEqual(last(load(0, 0, "a ~\n# x\n[s]"), printed(0)), [0])
        self.assertEqual(last(load(0, 0, "a = 1"), load(0, 1, "a ~"), printed(0)), [0])
        self.assertEqual(last(load(0, 0, "a = 1"), drop(0, 0), printed(0)), [0])

    def test_k(self):
        for k, expected in ((0, [0] + row("a = 1\n")), (1, [0]), (2, [-1]), (3, [-1]), (HUGE, [-1])):
            self.assertEqual(last(load(0, 0, "a = 1"), printed(k)), expected, k)

    def test_answered_byte_by_byte(self):
        self.assertEqual(last(load(1, 1, "\ta\t!\t-7 "), printed(1)), [0, 97, 32, 61, 32, 45, 55, 10])

    def test_one_form_for_every_way_of_writing(self):
        for text in ("a.b=1", "a.b = 1\n", "a.b ! 1", "[a]\nb = 1", "\t[ a ] \n  b\t=\t1  ", "# x\n\na.b   !1\n[z]\n"):
            self.assertEqual(text_of(text), "a.b = 1\n")

    def test_whole_paths(self):
        path = path_of(127)
        self.assertEqual(text_of(path + " = 1"), path + " = 1\n")
        self.assertEqual(text_of("[" + path[:24] + "]\n" + path[25:] + " = 1"), path + " = 1\n")


class ValuesTest(unittest.TestCase):
    def test_numbers(self):
        for number in (
            0, 1, -1, 9, 10, -10, 99, 100, 1000000007, 2 ** 31, 2 ** 32, -2 ** 32, 2 ** 53 + 1, 10 ** 18, -10 ** 18, 2 ** 63 - 2,
            2 ** 63 - 1, -2 ** 63 + 1, -2 ** 63,
        ):
            self.assertEqual(text_of(f"a = {number}"), f"a = {number}\n")

    def test_flags(self):
        self.assertEqual(text_of("a = true\nb = false\nc ! false\nd ! true"), "a = true\nb = false\nc = false\nd = true\n")

    def test_an_empty_text(self):
        self.assertEqual(text_of("a = \"\""), "a = \"\"\n")

    def test_texts_that_look_like_other_values(self):
        for text in ("true", "false", "0", "-1", " ", "#", "[a]", "a = 1", "~"):
            self.assertEqual(text_of(f"a = \"{text}\""), f"a = \"{text}\"\n")

    def written(self, byte):
        named = {34: '\\"', 92: "\\\\", 10: "\\n", 9: "\\t"}
        if byte in named:
            return named[byte]
        return f"\\x{byte:02x}" if byte < 32 or byte == 127 else bytes([byte]).decode("latin-1")

    def test_the_bytes_with_a_written_form(self):
        pairs = {
            0: "\\x00", 1: "\\x01", 8: "\\x08", 11: "\\x0b", 13: "\\x0d", 15: "\\x0f", 16: "\\x10", 27: "\\x1b", 31: "\\x1f",
            32: " ", 33: "!", 34: "\\\"", 35: "#", 39: "'", 91: "[", 92: "\\\\", 93: "]", 126: "~", 127: "\\x7f", 9: "\\t",
            10: "\\n", 128: "\x80", 160: "\xa0", 255: "\xff",
        }
        for byte, written in pairs.items():
            self.assertEqual(text_of(f"a = \"\\x{byte:02x}\""), f"a = \"{written}\"\n", byte)

    def test_every_byte_by_itself(self):
        for byte in range(256):
            self.assertEqual(text_of(f"a = \"\\x{byte:02x}\""), f"a = \"{self.written(byte)}\"\n", byte)

    def test_every_byte_at_once(self):
        for order in (range(256), range(255, -1, -1)):
            text = "".join(f"\\x{byte:02x}" for byte in order)
            self.assertEqual(text_of(f"a = \"{text}\""), "a = \"" + "".join(self.written(byte) for byte in order) + "\"\n")

    def test_escapes_behind_one_another(self):
        text = 'a = "\\\\n\\\\\\"\\nx00\\x5cx00"'
        self.assertEqual(text_of(text), 'a = "\\\\n\\\\\\"\\nx00\\\\x00"\n')

    def test_the_longest_texts(self):
        for size in (1, 4094, 4095):
            self.assertEqual(text_of("a = \"" + "x" * size + "\""), "a = \"" + "x" * size + "\"\n")
        self.assertEqual(text_of("a = \"" + "\\x00" * 2040 + "\""), "a = \"" + "\\x00" * 2040 + "\"\n")


class OrderTest(unittest.TestCase):
    def check(self, ordered):
        expected = "".join(f"{path} = 1\n" for path in ordered)
        for paths in (ordered, ordered[::-1]):
            self.assertEqual(text_of("".join(f"{path} ! 1\n" for path in paths)), expected)

    def test_in_the_order_of_bytes(self):
        self.check(["-", "0", "9", "_", "a", "z"])
        self.check(["a-", "a-b", "a.b", "a0", "a_", "ab"])
        self.check(["a", "aa", "aaa.a", "aaab"])
        self.check(["n1", "n10", "n2"])

    def test_not_in_the_order_of_layers_or_lines(self):
        self.assertEqual(text_of("z = 1\nc = 2", "y = 3\nb = 4", "x = 5\na = 6", "w = 7\nd = 8"), (
            "a = 6\nb = 4\nc = 2\nd = 8\nw = 7\nx = 5\ny = 3\nz = 1\n"
        ))

    def test_what_does_not_hold_is_not_printed(self):
        texts = ("a.b ! 1\nc = 2\nd = 3", "a = 4\nc.x = 5\nd ~", "[a]\nc ! true\n[]\nd = 6", "a.c.d = 7\nc ~\ne = \"\"")
        self.assertEqual(text_of(*texts), "a.b = 1\na.c = true\nd = 6\ne = \"\"\n")
        self.assertEqual(text_of(*texts[:2]), "a.b = 1\nc.x = 5\n")
        self.assertEqual(text_of(*texts[:3]), "a.b = 1\na.c = true\nc.x = 5\nd = 6\n")


class OneFormTest(unittest.TestCase):
    """T5: print's text, loaded into a layer of an empty record, holds the same and is printed the same."""

    def reads_back(self, *texts):
        loads = [load(0, layer, text) for layer, text in enumerate(texts)]
        text = last(*loads, printed(0))[1:]
        how_many = last(*loads, count(0))
        for layer in range(4):
            told = run(*loads, load(1, layer, text), same(), printed(1), count(1), printed(0))
            self.assertEqual(told[len(loads):], [TAKEN, [0, 1], [0] + text, how_many, [0] + text], texts)
        return bytes(text)

    def test_nothing(self):
        self.assertEqual(self.reads_back(), b"")
        self.assertEqual(self.reads_back("a ~"), b"")

    def test_all_kinds_of_values(self):
        self.reads_back("a = 0\nb = -9223372036854775808\nc ! 9223372036854775807\nd = true\ne ! false\nf = \"\"\ng.h = \"x\"")

    def test_texts_of_every_byte(self):
        for byte in range(256):
            self.reads_back(f"a = \"\\x{byte:02x}\"\nb ! \"x\\x{byte:02x}\\x{byte:02x}y\"")
        self.reads_back("a = \"" + "".join(f"\\x{byte:02x}" for byte in range(256)) + "\"")

    def test_several_layers(self):
        self.reads_back("a.b ! 1\nc = 2\nd = 3", "a = 4\nc.x = 5\nd ~", "[a]\nc ! true\n[]\nd = 6", "a.c.d = 7\nc ~\ne = \"\"")
        self.reads_back("[a]\nb ! 1\n[b]\na ~", "[b]\na.c = \"\\\"\\\\\"\n[]\nz = \"\\n\\t\"")

    def test_paths_of_every_length(self):
        for size in (1, 24, 25, 126, 127):
            self.reads_back(path_of(size) + " = \"=\"")
        self.reads_back("[a.b.c.d.e.f.g]\nh = 1\ni ! 2\n[-]\n- = 3\n[_]\n_ = 4\n[0]\n0 = 5")

    def test_64_settings_of_four_layers(self):
        texts = ["".join(f"n{number}.{layer} = {number}\n" for number in range(16)) for layer in range(4)]
        self.reads_back(*texts)

    def test_as_full_as_a_layer_may_be(self):
        self.reads_back("a = \"" + "x" * 4095 + "\"")
        self.reads_back("a = \"" + "\\\"" * 4000 + "\"")
        self.reads_back("a = \"" + "\\x0a" * 2000 + "\"", "b = \"" + "\\x09" * 1900 + "\"")

    def test_where_there_is_no_room(self):
        texts = ["".join(f"n{number}.{layer} = 1\n" for number in range(17)) for layer in range(4)]
        loads = [load(0, layer, text) for layer, text in enumerate(texts)]
        text = last(*loads, printed(0))[1:]
        self.assertEqual(last(*loads, load(1, 0, text)), [-4, 65])
        texts = [f"{name} = \"" + "x" * 3000 + "\"" for name in "abc"]
        loads = [load(0, layer, text) for layer, text in enumerate(texts)]
        text = last(*loads, printed(0))[1:]
        self.assertEqual(last(*loads, load(1, 0, text)), [-5])
        text = last(*loads[:2], printed(0))[1:]
        self.assertEqual(last(*loads, load(1, 0, text)), [-4, 2])

    def test_the_values_are_the_same(self):
        loads = [load(0, 0, "a = \"\\x7f\\xff\\\\\"\nb = -5\nc = false")]
        text = last(*loads, printed(0))[1:]
        asked = [value(k, path) for k in (0, 1) for path in "abc"]
        told = run(*loads, load(1, 2, text), *asked)[2:]
        self.assertEqual(told[:3], [[0, 3, 127, 255, 92], [0, 1, -5], [0, 2, 0]])
        self.assertEqual(told[3:], told[:3])
