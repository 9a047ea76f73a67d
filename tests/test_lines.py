"""Lines: blanks, remarks, sections and settings, and what is none of them."""

import unittest

from tests.helper import kind, last, load, loaded, origin, read, run, value

TAKEN = [0, 0]
BLANKS = ("", " ", "\t", "  ", "\t\t", " \t ")


class LinesTest(unittest.TestCase):
    def test_lines_that_say_nothing(self):
        for line in ("", " ", "\t", " \t ", "#", "# a = 1", " \t# [", "##", "#\x00\x7f\xff\"\\\r", "#a"):
            self.assertEqual(loaded(line), TAKEN, line)
            self.assertEqual(read(line + "\na = 1\n" + line), [0, 1, 1], line)

    def test_any_byte_in_a_remark(self):
        for byte in range(256):
            self.assertEqual(loaded(b"#" + bytes([byte])), TAKEN, byte)

    def test_the_text_of_no_bytes(self):
        self.assertEqual(run(load(0, 0, "a = 1"), load(0, 0, ""), kind(0, "a")), [TAKEN, TAKEN, [0, 0]])

    def test_a_line_ends_at_a_byte_10_or_the_texts_end(self):
        self.assertEqual(read("a = 1"), [0, 1, 1])
        self.assertEqual(read("a = 1\n"), [0, 1, 1])
        self.assertEqual(read("b = 2\na = 1"), [0, 1, 1])
        self.assertEqual(loaded("[a"), [-2, 1])
        self.assertEqual(read("[b]\na = 1\n[b]", "b.a"), [0, 1, 1])
        self.assertEqual(read("b ~\na = \"x\""), [0, 3, 120])

    def test_no_other_byte_ends_a_line(self):
        for byte in (0, 11, 12, 13, 28, 133):
            self.assertEqual(loaded(b"a = 1" + bytes([byte]) + b"b = 2"), [-2, 1], byte)
            self.assertEqual(loaded(b"a = 1" + bytes([byte])), [-2, 1], byte)
            self.assertEqual(loaded(b"#" + bytes([byte]) + b"a = 1"), TAKEN)
            self.assertEqual(last(load(0, 0, b"#" + bytes([byte]) + b"a = 1"), kind(0, "a")), [0, 0])

    def test_only_32_and_9_are_blanks(self):
        for byte in (0, 11, 12, 13, 160):
            sign = bytes([byte])
            for text in (sign, sign + b"a = 1", b"a" + sign + b"= 1", b"a =" + sign + b"1", b"[" + sign + b"]"):
                self.assertEqual(loaded(text), [-2, 1], text)

    def test_blanks_in_settings(self):
        for one in BLANKS:
            for two in BLANKS:
                self.assertEqual(read(one + "a" + two + "=" + one + "5" + two), [0, 1, 5])
                self.assertEqual(read(one + "a" + two + "!" + one + "\"x\"" + two), [0, 3, 120])
                self.assertEqual(read(two + "a" + one + "=" + two + "true" + one), [0, 2, 1])
                self.assertEqual(loaded(one + "a" + two + "~" + one), TAKEN)

    def test_blanks_in_sections(self):
        for one in BLANKS:
            for two in BLANKS:
                self.assertEqual(read(one + "[" + two + "s.t" + one + "]" + two + "\na = 1", "s.t.a"), [0, 1, 1])
                self.assertEqual(read("[s]\n" + one + "[" + two + "]" + one + "\na = 1"), [0, 1, 1])

    def test_blanks_where_none_may_be(self):
        for line in ("a b = 1", "a. b = 1", "a .b = 1", "a = 1 2", "a = - 1", "a = tr ue", "[a b]", "[a. b]", "[a .b]"):
            self.assertEqual(loaded(line), [-2, 1], line)

    def test_no_lines(self):
        for line in (
            "a", "a b", "=", "!", "~", "= 1", "! 1", "~ a", "a =", "a !", "a = ", "a 1", "a := 1", "a == 1", "a =! 1",
            "a != 1", "a ~ 1", "a ~~", "a ~ #", "a ~= 1", "a =~", "a = 1 # x", "a = true # x", "a = \"x\" # x",
            "a = 1, b = 2", "a = b", "a = 'x'", "\"a\" = 1", "a : 1", "a\\ = 1", ";", "// x", "-", "a.b",
        ):
            self.assertEqual(loaded(line), [-2, 1], line)

    def test_no_sections(self):
        for line in (
            "[", "]", "[a", "a]", "[a]]", "[[a]", "[[a]]", "[a] x", "[a] # x", "[a] = 1", "[] a = 1", "[a = 1", "[a]b",
            "[.]", "[a.]", "[.a]", "[#]", "[\"a\"]", "[] []", "[a][b]", "[ ", "[a = 1]", "[]]", "[[]", "] [",
        ):
            self.assertEqual(loaded(line), [-2, 1], line)

    def test_names_that_look_like_something_else(self):
        for name in ("true", "false", "0", "-", "_", "-0", "007", "--", "a-b_c", "-1"):
            self.assertEqual(read(name + "=3", name), [0, 1, 3], name)

    def test_signs_close_by(self):
        self.assertEqual(read("a=-1"), [0, 1, -1])
        self.assertEqual(read("a!false"), [0, 2, 0])
        self.assertEqual(read("a-=1", "a-"), [0, 1, 1])
        self.assertEqual(loaded("a~"), TAKEN)

    def test_the_line_is_told(self):
        text = "\n# x\n\n[s]\n \na = 1\n[]\nb ! true\n\nc = \"\""
        for path, line in (("s.a", 6), ("b", 8), ("c", 10)):
            self.assertEqual(last(load(1, 2, text), origin(1, path)), [0, 2, line])

    def test_the_wrong_line_is_told(self):
        self.assertEqual(loaded("a = 1\n\n#\nb = 01\nc"), [-2, 4])
        self.assertEqual(loaded("\n\n\n?"), [-2, 4])
        self.assertEqual(loaded("?\n\n\n"), [-2, 1])
        self.assertEqual(loaded("\n" * 8191 + "x"), [-2, 8192])

    def test_an_unsetting_has_no_value(self):
        told = run(load(0, 0, "a ~"), kind(0, "a"), value(0, "a"), origin(0, "a"))
        self.assertEqual(told, [TAKEN, [0, 0], [-2], [-2]])
