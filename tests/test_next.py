"""next: the paths at which something holds, walked in their order."""

import unittest

from tests.helper import after, drop, last, load, path_of, run, spelled

HUGE = 4294967295
LARGEST = b"\xff"


def text_of(paths):
    return "".join(path + " = 1\n" for path in paths)


def behind(paths, given):
    return spelled(last(load(0, 0, text_of(paths)), after(0, given)))


def walked(calls, k):
    """The paths from the very first one to the last, each asked for with the one before."""
    found = []
    path = spelled(last(*calls, after(k, "")))
    while path:
        found.append(path)
        path = spelled(last(*calls, after(k, path)))
    return found


class AfterTest(unittest.TestCase):
    PATHS = ["b", "d.e", "d.g", "f"]

    def test_no_bytes(self):
        self.assertEqual(behind(self.PATHS, ""), "b")

    def test_paths_at_which_something_holds(self):
        for path, following in (("b", "d.e"), ("d.e", "d.g"), ("d.g", "f"), ("f", "")):
            self.assertEqual(behind(self.PATHS, path), following, path)

    def test_paths_at_which_nothing_holds(self):
        for path, following in (
            ("a", "b"), ("b.a", "d.e"), ("c", "d.e"), ("d", "d.e"), ("d.d", "d.e"), ("d.e.a", "d.g"), ("d.f", "d.g"),
            ("d.h", "f"), ("e", "f"), ("f.a", ""), ("g", ""), ("z.z", ""), ("0", "b"), ("-", "b"), ("_", "b"),
        ):
            self.assertEqual(behind(self.PATHS, path), following, path)

    def test_bytes_that_are_no_path(self):
        for given, following in (
            (b"\x00", "b"), (b" ", "b"), (b",", "b"), (b"\n", "b"), (b"#", "b"), (b".", "b"), (b"A", "b"), (b"b.", "d.e"),
            (b"b\x00", "d.e"), (b"a\xff", "b"), (b"b\xff", "d.e"), (b"d.", "d.e"), (b"d..", "d.e"), (b"d.e\x00", "d.g"),
            (b"d,", "d.e"), (b"d/", "f"), (b"d.\xff", "f"), (b"{", ""), (b"\x7f", ""), (b"\x80", ""), (b"\xff", ""),
            (b"\xff\x00", ""), (b"f\x00", ""), (b"n" * 25, ""), (b"c" * 127, "d.e"), (b"a b", "b"), (b"D.E", "b"),
        ):
            self.assertEqual(behind(self.PATHS, given), following, given)

    def test_every_byte_by_itself(self):
        for byte in range(256):
            expected = "b" if byte < 98 else "d.e" if byte <= 100 else "f" if byte < 102 else ""
            self.assertEqual(behind(self.PATHS, bytes([byte])), expected, byte)

    def test_nothing_holds(self):
        for given in ("", "a", b"\x00", LARGEST):
            self.assertEqual(last(after(0, given)), [0])
            self.assertEqual(last(load(0, 2, "a ~"), after(0, given)), [0])

    def test_nothing_behind(self):
        for given in ("a", "a.b", "b", LARGEST, LARGEST * 127):
            self.assertEqual(last(load(0, 0, "a = 1"), after(0, given)), [0])

    def test_answered_byte_by_byte(self):
        self.assertEqual(last(load(1, 2, "[a-1]\n_b = 1"), after(1, "")), [0, 97, 45, 49, 46, 95, 98])


class BoundsTest(unittest.TestCase):
    def test_how_many_bytes(self):
        for size in (0, 1, 126, 127):
            self.assertEqual(behind(["z"], b"a" * size), "z", size)
        for size in (128, 129, 200):
            self.assertEqual(last(load(0, 0, "z = 1"), after(0, b"a" * size)), [-1], size)
            self.assertEqual(last(after(0, LARGEST * size)), [-1], size)

    def test_the_longest_paths(self):
        path = path_of(127)
        self.assertEqual(behind([path], path[:126]), path)
        self.assertEqual(behind([path], path), "")
        self.assertEqual(behind([path, "z"], path), "z")
        self.assertEqual(behind([path], path[:126] + "m"), path)
        self.assertEqual(behind([path], path[:126] + "o"), "")

    def test_k(self):
        for k, expected in ((0, [0, 97]), (1, [0]), (2, [-1]), (3, [-1]), (HUGE, [-1])):
            self.assertEqual(last(load(0, 0, "a = 1"), after(k, "")), expected, k)
        self.assertEqual(last(after(2, b"a" * 128)), [-1])

    def test_each_record_has_its_own(self):
        told = run(load(0, 0, "a = 1"), load(1, 0, "b = 1"), after(0, ""), after(1, ""), after(0, "a"), after(1, "a"))
        self.assertEqual(told[2:], [[0, 97], [0, 98], [0], [0, 98]])


class OrderTest(unittest.TestCase):
    def check(self, ordered):
        for paths in (ordered, ordered[::-1], sorted(ordered, key=lambda path: path[::-1])):
            self.assertEqual(walked([load(0, 0, text_of(paths))], 0), ordered)

    def test_letters(self):
        self.check(["a", "b", "c", "x", "y", "z"])

    def test_signs_against_letters(self):
        self.check(["-", "0", "9", "_", "a", "z"])
        self.check(["a-", "a0", "a9", "a_", "aa", "az"])

    def test_a_dash_comes_before_a_dot_and_a_digit_behind_it(self):
        self.check(["a-", "a-b", "a.b", "a0", "a0b", "a_", "ab"])
        self.check(["a-.b", "a.-", "a.0", "a.b.c", "a0.a"])

    def test_what_begins_another_comes_first(self):
        self.check(["a", "aa", "aaa", "aaaa.a", "aaab"])
        self.check(["n" * size for size in range(1, 25)])

    def test_digits_are_bytes_not_numbers(self):
        self.check(["n1", "n10", "n100", "n2", "n20", "n9"])

    def test_a_path_that_begins_another(self):
        self.assertEqual(behind(["a.b"], "a"), "a.b")
        self.assertEqual(behind(["a.b", "a-c"], "a"), "a-c")
        self.assertEqual(behind(["a", "a-c"], "a"), "a-c")
        self.assertEqual(behind(["a", "b"], "a.z.z"), "b")
        self.assertEqual(behind(["ab", "abc"], "ab"), "abc")


class WalkTest(unittest.TestCase):
    LAYERS = {
        0: "b.c ! 1\nd = 2\nf.g = 3", 1: "b = 4\nd.e = 5\nh ~", 2: "f ~\nb.a = 6\nh.i = true", 3: "b.c.d = 7\nd-e = \"x\"",
    }

    def test_through_several_layers(self):
        for k in (0, 1):
            calls = [load(k, layer, text) for layer, text in self.LAYERS.items()]
            self.assertEqual(walked(calls, k), ["b.a", "b.c", "d-e", "d.e", "h.i"])
            self.assertEqual(walked(calls, 1 - k), [])

    def test_64_paths(self):
        paths = sorted(f"{'nm'[number % 2]}{number}.{number % 7}" for number in range(64))
        self.assertEqual(walked([load(1, 3, text_of(paths[::-1]))], 1), paths)

    def test_256_paths(self):
        paths = [f"n{number:03d}" for number in range(256)]
        calls = [load(0, layer, text_of(paths[layer::4])) for layer in range(4)]
        self.assertEqual(walked(calls, 0), paths)

    def test_what_holds_changes(self):
        told = run(
            load(0, 0, "a = 1\nb = 2"), after(0, ""), load(0, 1, "a ~"), after(0, ""), load(0, 1, "a.z = 1"), after(0, ""),
            after(0, "a.z"), drop(0, 0), after(0, "a.z"), drop(0, 1), after(0, ""),
        )
        told = [spelled(told[place]) for place in (1, 3, 5, 6, 8, 10)]
        self.assertEqual(told, ["a", "b", "a.z", "b", "", ""])

    def test_hidden_barred_and_unset_paths_are_passed_over(self):
        calls = [load(0, 0, "a ! 1\nb = 2\nd = 3"), load(0, 1, "a = 4\nb ~\nc ~"), load(0, 2, "d.e = 5")]
        self.assertEqual(walked(calls, 0), ["a", "d.e"])
