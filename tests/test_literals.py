"""Values: numbers, flags and texts as they are written, and what is no value."""

import unittest

from tests.helper import kind, last, load, loaded, read, row

NO_LINE = [-2, 1]


class NumbersTest(unittest.TestCase):
    def test_numbers(self):
        for number in (0, 1, 9, 10, 42, 100, 1000000007, -1, -9, -10, -100, 2 ** 62, -2 ** 62):
            self.assertEqual(read(f"a = {number}"), [0, 1, number])

    def test_the_ends_of_the_range(self):
        for number in (2 ** 63 - 1, 2 ** 63 - 2, -2 ** 63, -2 ** 63 + 1):
            self.assertEqual(read(f"a = {number}"), [0, 1, number])
        for number in (2 ** 63, 2 ** 63 + 1, -2 ** 63 - 1, 2 ** 64, -2 ** 64, 10 ** 19, -10 ** 19, 10 ** 30):
            self.assertEqual(loaded(f"a = {number}"), NO_LINE, number)

    def test_numbers_of_very_many_digits(self):
        for digits in (20, 100, 4299, 4300, 4301, 8000):
            self.assertEqual(loaded("a = " + "9" * digits), NO_LINE, digits)
            self.assertEqual(loaded("a = -" + "1" * digits), NO_LINE, digits)
            self.assertEqual(loaded("a = " + "0" * digits), NO_LINE, digits)

    def test_nought(self):
        self.assertEqual(read("a = 0"), [0, 1, 0])
        for written in ("-0", "00", "-00", "01", "-01", "007", "0x1", "00000000000000000001"):
            self.assertEqual(loaded("a = " + written), NO_LINE, written)

    def test_no_numbers(self):
        for written in ("-", "--1", "+1", "+0", "1-", "1.0", "1e3", "1_000", ".5", "0b1", "1a", "a1", "\xb2", "1,", "-a"):
            self.assertEqual(loaded("a = " + written), NO_LINE, written)

    def test_numbers_are_told_as_ints(self):
        told = read("a = 1")
        self.assertEqual([number.__class__ for number in told], [int] * 3)


class FlagsTest(unittest.TestCase):
    def test_flags(self):
        self.assertEqual(read("a = true"), [0, 2, 1])
        self.assertEqual(read("a = false"), [0, 2, 0])

    def test_flags_are_told_as_ints(self):
        for word in ("true", "false"):
            self.assertEqual([number.__class__ for number in read("a = " + word)], [int] * 3)

    def test_no_flags(self):
        for written in ("True", "FALSE", "tru", "truee", "fals", "yes", "no", "on", "t", "truefalse", "null", "none"):
            self.assertEqual(loaded("a = " + written), NO_LINE, written)


class TextsTest(unittest.TestCase):
    def test_texts(self):
        for text in ("", "x", " ", "  x  ", "a = 1", "# x", "[x]", "'", "true", "0", "~!=", "/"):
            self.assertEqual(read("a = \"" + text + "\""), [0, 3] + row(text), text)

    def test_a_text_of_no_bytes_is_a_text(self):
        self.assertEqual(last(load(0, 0, "a = \"\""), kind(0, "a")), [0, 3])

    def test_every_byte(self):
        for byte in range(256):
            told = read(b'a = "x' + bytes([byte]) + b'y"')
            if byte == 10:
                self.assertEqual(told, NO_LINE)
            elif byte < 32 or byte in (34, 92, 127):
                self.assertEqual(told, NO_LINE, byte)
            else:
                self.assertEqual(told, [0, 3, 120, byte, 121])

    def test_short_escapes(self):
        for written, byte in (('\\"', 34), ("\\\\", 92), ("\\n", 10), ("\\t", 9)):
            self.assertEqual(read('a = "' + written + '"'), [0, 3, byte])
            self.assertEqual(read('a = "x' + written + written + 'y"'), [0, 3, 120, byte, byte, 121])

    def test_every_byte_behind_a_backslash(self):
        short = {34: 34, 92: 92, 110: 10, 116: 9}
        for byte in range(256):
            told = read(b'a = "\\' + bytes([byte]) + b'"')
            self.assertEqual(told, [0, 3, short[byte]] if byte in short else NO_LINE, byte)

    def test_every_byte_by_its_digits(self):
        for byte in range(256):
            self.assertEqual(read(f'a = "\\x{byte:02x}"'), [0, 3, byte])
            self.assertEqual(read(f'a = "1\\x{byte:02x}2"'), [0, 3, 49, byte, 50])

    def test_what_are_no_digits(self):
        for byte in range(256):
            sign = bytes([byte])
            good = sign in b"0123456789abcdef"
            for written in (b"\\x" + sign + b"0", b"\\x0" + sign):
                told = read(b'a = "' + written + b'"')
                self.assertEqual(told[:2] == [0, 3], good, written)
                self.assertEqual(told == NO_LINE, not good, written)

    def test_no_texts(self):
        for written in (
            '"', '"x', 'x"', '""x', '"" ""', '"x" y', '"""', '"\\', '"\\"', '"\\x', '"\\x"', '"\\x1', '"\\x1"', '"\\x12',
            '"\\X12"', '"\\u0041"', '"\\r"', '"\\0"', '"\\a"', '"\\ "', '"\\N"', '"\\T"', "'x'", '"x"\\', '"x"1', '"\\\\\\"',
            '"\\xAB"', '"\\xa"', '"\\x 1"', '"x" # y',
        ):
            self.assertEqual(loaded("a = " + written), NO_LINE, written)

    def test_escapes_behind_one_another(self):
        self.assertEqual(read('a = "\\\\n\\\\\\"\\x5cn\\x22"'), [0, 3] + row('\\n\\"\\n"'))

    def test_blanks_of_a_text_stay(self):
        self.assertEqual(read('a = "  " '), [0, 3, 32, 32])
        self.assertEqual(loaded('a = "\t"'), NO_LINE)

    def test_a_text_does_not_go_over_lines(self):
        self.assertEqual(loaded('a = "x\ny"'), NO_LINE)
        self.assertEqual(loaded('a = "x\\\ny"'), NO_LINE)
