"""Names and paths: where a line writes one, where a section does, and where a call asks for one."""

import unittest

from tests.helper import kind, last, load, loaded, origin, path_of, read, run, value

TAKEN = [0, 0]
NAME_SIGNS = "abcdefghijklmnopqrstuvwxyz0123456789-_"


def asked(path):
    """The answers of all three calls that ask for a path, of an empty record."""
    return run(kind(0, path), value(0, path), origin(0, path))


class PathsTest(unittest.TestCase):
    def check(self, path, good):
        """A path is one, or none, alike in a line, a section and a question."""
        self.assertEqual(loaded(path + " = 1"), TAKEN if good else [-2, 1], path)
        self.assertEqual(loaded("[" + path + "]"), TAKEN if good else [-2, 1], path)
        self.assertEqual(asked(path), [[0, 0], [-2], [-2]] if good else [[-1]] * 3, path)

    def test_the_builder_of_long_paths(self):
        for size in range(1, 130):
            self.assertEqual(len(path_of(size)), size)
            self.assertTrue(all(1 <= len(name) <= 24 for name in path_of(size).split(".")))

    def test_bytes_of_names(self):
        for byte in range(256):
            sign = bytes([byte]).decode("latin-1")
            good = sign in NAME_SIGNS
            expected = [[0, 0], [-2], [-2]] if good or sign == "." else [[-1]] * 3
            self.assertEqual(asked("x" + sign + "y"), expected, byte)
            self.assertEqual(asked(sign), [[0, 0], [-2], [-2]] if good else [[-1]] * 3, byte)

    def test_bytes_of_names_in_lines(self):
        for byte in range(256):
            sign = bytes([byte]).decode("latin-1")
            if sign in NAME_SIGNS + ".":
                self.assertEqual(loaded("x" + sign + "y ~"), TAKEN, byte)
                self.assertEqual(loaded("[x" + sign + "y]"), TAKEN, byte)
            elif sign != "\n":
                self.assertEqual(loaded("x" + sign + "y ~"), [-2, 1], byte)
                self.assertEqual(loaded("[x" + sign + "y]"), [-2, 1], byte)

    def test_length_of_names(self):
        for size, good in ((1, True), (2, True), (23, True), (24, True), (25, False), (26, False)):
            self.check("n" * size, good)
            self.check("a." + "n" * size, good)
            self.check("n" * size + ".a", good)

    def test_how_many_names(self):
        for names, good in ((1, True), (2, True), (7, True), (8, True), (9, False), (10, False)):
            self.check(".".join(["n"] * names), good)

    def test_length_of_paths(self):
        for size, good in ((126, True), (127, True), (128, False), (129, False)):
            self.check(path_of(size), good)

    def test_paths_of_200_bytes(self):
        self.assertEqual(asked("n" * 200), [[-1]] * 3)
        self.assertEqual(asked("." * 200), [[-1]] * 3)

    def test_no_paths(self):
        for path in (".", "a.", ".a", "a..b", "..", "a.b.", "A", "a b", "a\n", " a", "a ", "a\tb", "\x00", "\xe9"):
            self.assertEqual(asked(path), [[-1]] * 3, path)
        self.assertEqual(asked(""), [[-1]] * 3)

    def test_no_paths_in_lines(self):
        for path in (".", "a.", ".a", "a..b", "..", "a.b.", "A", "a b", "a\tb", "a . b", "\xe9", ""):
            self.assertEqual(loaded(path + " = 1"), [-2, 1], path)
            self.assertEqual(loaded(path + " ! 1"), [-2, 1], path)
            self.assertEqual(loaded(path + " ~"), [-2, 1], path)
            if path:
                self.assertEqual(loaded("[" + path + "]"), [-2, 1], path)


class SectionPathsTest(unittest.TestCase):
    def test_the_section_goes_before(self):
        self.assertEqual(read("[b.c]\nd.e = 7", "b.c.d.e"), [0, 1, 7])
        self.assertEqual(read("[b.c]\nd.e = 7", "d.e"), [-2])

    def test_names_behind_a_section(self):
        self.assertEqual(loaded("[a.b.c.d]\ne.f.g.h ~"), TAKEN)
        self.assertEqual(loaded("[a.b.c.d]\ne.f.g.h.i ~"), [-2, 2])
        self.assertEqual(loaded("[a.b.c.d.e.f.g]\nh ~"), TAKEN)
        self.assertEqual(loaded("[a.b.c.d.e.f.g.h]\ni ~"), [-2, 2])
        self.assertEqual(loaded("[a]\nb.c.d.e.f.g.h ~"), TAKEN)
        self.assertEqual(loaded("[a]\nb.c.d.e.f.g.h.i ~"), [-2, 2])

    def test_bytes_behind_a_section(self):
        for first in (1, 24, 60, 125):
            section = path_of(first)
            rest = path_of(127 - first - 1)
            self.assertEqual(loaded("[" + section + "]\n" + rest + " = 1"), TAKEN, first)
            self.assertEqual(read("[" + section + "]\n" + rest + " = 1", section + "." + rest), [0, 1, 1])
            longer = path_of(128 - first - 1)
            self.assertEqual(loaded("[" + section + "]\n" + longer + " = 1"), [-2, 2], first)

    def test_a_section_with_no_room_behind_it_is_a_line(self):
        for size in (126, 127):
            text = "[" + path_of(size) + "]\n"
            self.assertEqual(loaded(text), TAKEN)
            self.assertEqual(loaded(text + "# nothing\n[]\na = 1"), TAKEN)
            self.assertEqual(loaded(text + "a = 1"), [-2, 2])
            self.assertEqual(loaded(text + "a ~"), [-2, 2])

    def test_the_written_path_must_be_one_by_itself(self):
        for written in (".b", "b.", "b..c", "", "n" * 25):
            self.assertEqual(loaded("[a]\n" + written + " = 1"), [-2, 2], written)

    def test_section_ends_and_changes(self):
        text = "x = 1\n[a]\nx = 2\n[b]\nx = 3\n[]\ny = 4\n[a]\ny = 5\n[ \t ]\nz = 6"
        for path, number in (("x", 1), ("a.x", 2), ("b.x", 3), ("y", 4), ("a.y", 5), ("z", 6)):
            self.assertEqual(read(text, path), [0, 1, number])

    def test_a_section_is_no_setting(self):
        self.assertEqual(last(load(0, 0, "[a]"), kind(0, "a")), [0, 0])
        self.assertEqual(loaded("a = 1\n[a]\n[a.b]\n[a]"), TAKEN)
        self.assertEqual(loaded("[a]\n[]\na = 1"), TAKEN)

    def test_a_section_is_of_its_own_text(self):
        self.assertEqual(run(load(0, 0, "[a]"), load(0, 1, "b = 1"), value(0, "b"))[2], [0, 1, 1])
