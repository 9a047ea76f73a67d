"""load and drop: room, touching within a text, which refusal comes first, and what a refusal leaves alone."""

import unittest

from tests.helper import (
    after, count, drop, kind, last, load, loaded, origin, path_of, printed, row, run, same, value, why,
)

TAKEN = [0, 0]
HUGE = 4294967295


def settings(how_many):
    return "".join(f"n{number} = {number}\n" for number in range(how_many))


def filling(size):
    """A text whose one setting takes just so many bytes of room."""
    return "a = \"" + "x" * (size - 1) + "\""


class BoundsTest(unittest.TestCase):
    def test_k(self):
        for k, good in ((0, True), (1, True), (2, False), (3, False), (HUGE, False)):
            self.assertEqual(last(load(k, 0, "a = 1")), TAKEN if good else [-1], k)
            self.assertEqual(last(drop(k, 0)), TAKEN if good else [-1], k)
            self.assertEqual(last(kind(k, "a")), [0, 0] if good else [-1], k)
            self.assertEqual(last(value(k, "a")), [-2] if good else [-1], k)
            self.assertEqual(last(origin(k, "a")), [-2] if good else [-1], k)
            self.assertEqual(last(why(k, 0, "a")), [0, 0] if good else [-1], k)
            self.assertEqual(last(after(k, "a")), [0] if good else [-1], k)
            self.assertEqual(last(printed(k)), [0] if good else [-1], k)
            self.assertEqual(last(count(k)), [0, 0] if good else [-1], k)

    def test_layer(self):
        for layer, good in ((0, True), (1, True), (2, True), (3, True), (4, False), (5, False), (HUGE, False)):
            for k in (0, 1):
                self.assertEqual(last(load(k, layer, "a = 1")), TAKEN if good else [-1], layer)
                self.assertEqual(last(drop(k, layer)), TAKEN if good else [-1], layer)

    def test_length_of_a_text(self):
        self.assertEqual(loaded("#" * 8192), TAKEN)
        self.assertEqual(loaded("#" * 8193), [-5])
        self.assertEqual(loaded("\n" * 8192), TAKEN)
        self.assertEqual(loaded("\n" * 8193), [-5])
        self.assertEqual(loaded(" " * 8300), [-5])
        self.assertEqual(loaded("a = 1" + " " * 8187), TAKEN)
        self.assertEqual(loaded("a = 1" + " " * 8188), [-5])


class RoomTest(unittest.TestCase):
    def test_how_many_settings(self):
        self.assertEqual(loaded(settings(63)), TAKEN)
        self.assertEqual(loaded(settings(64)), TAKEN)
        self.assertEqual(loaded(settings(65)), [-4, 65])
        self.assertEqual(loaded(settings(100)), [-4, 65])

    def test_lines_that_are_no_settings_do_not_count(self):
        self.assertEqual(loaded(("# x\n\n[s]\n" * 100) + settings(64) + ("[t]\n#\n" * 100)), TAKEN)
        self.assertEqual(loaded(("# x\n\n[s]\n" * 100) + settings(65)), [-4, 365])

    def test_every_sort_of_setting_counts(self):
        for line in ("z ~", "z = 1", "z ! true", "z = \"\""):
            self.assertEqual(loaded(settings(63) + line), TAKEN, line)
            self.assertEqual(loaded(settings(64) + line), [-4, 65], line)
        self.assertEqual(loaded("".join(f"n{number} ~\n" for number in range(65))), [-4, 65])

    def test_how_many_bytes(self):
        self.assertEqual(loaded(filling(4095)), TAKEN)
        self.assertEqual(loaded(filling(4096)), TAKEN)
        self.assertEqual(loaded(filling(4097)), [-4, 1])
        self.assertEqual(loaded(filling(4095) + "\nb = 1"), TAKEN)
        self.assertEqual(loaded(filling(4095) + "\nb ~"), TAKEN)
        self.assertEqual(loaded(filling(4096) + "\nb = 1"), [-4, 2])
        self.assertEqual(loaded(filling(4096) + "\n\nb ~"), [-4, 3])
        self.assertEqual(loaded(filling(4096) + "\n# b\n[b]\n"), TAKEN)

    def test_texts_count_as_they_are_when_read(self):
        self.assertEqual(loaded("a = \"" + "\\\"" * 4000 + "x" * 95 + "\""), TAKEN)
        self.assertEqual(loaded("a = \"" + "\\\"" * 4000 + "x" * 96 + "\""), [-4, 1])
        self.assertEqual(loaded("a = \"" + "\\x00" * 2000 + "\"\n" + "b" * 24 + " ~"), TAKEN)
        self.assertEqual(loaded("a ! \"" + "\\n" * 2048 + "\"\nb ! \"" + "\xff" * 2046 + "\""), TAKEN)
        self.assertEqual(loaded("a ! \"" + "\\n" * 2048 + "\"\nb ! \"" + "\xff" * 2047 + "\""), [-4, 2])

    def test_numbers_and_flags_take_no_room(self):
        full = filling(4095)
        self.assertEqual(loaded(full + "\nb = -9223372036854775808"), TAKEN)
        self.assertEqual(loaded(full + "\nb ! false"), TAKEN)

    def test_whole_paths_count_with_the_sections_names(self):
        text = "[" + "s" * 24 + "]\na = \"" + "x" * 4000 + "\"\n"
        self.assertEqual(loaded(text + "b" * 24 + "." + "c" * 20 + " ~"), TAKEN)
        self.assertEqual(loaded(text + "b" * 24 + "." + "c" * 21 + " ~"), [-4, 3])

    def test_paths_alone_fill_the_room(self):
        lines = [f"[{path_of(124)}]"] + [f"{number:02d} ~" for number in range(10, 42)]
        self.assertEqual(loaded("\n".join(lines)), TAKEN)
        room_left = 4096 - 32 * 127
        self.assertEqual(loaded("\n".join(lines + ["[]", "z" * 24 + " = \"" + "x" * (room_left - 24) + "\""])), TAKEN)
        self.assertEqual(loaded("\n".join(lines + ["[]", "z" * 24 + " = \"" + "x" * (room_left - 23) + "\""])), [-4, 35])

    def test_each_layer_has_its_own_room(self):
        calls = [load(k, layer, filling(4096)) for k in (0, 1) for layer in range(3)]
        self.assertEqual(run(*calls), [TAKEN] * 6)
        calls = [load(k, layer, settings(64)) for k in (0, 1) for layer in range(4)]
        self.assertEqual(run(*calls), [TAKEN] * 8)


class TouchingTest(unittest.TestCase):
    def test_settings_that_touch(self):
        for one, two in (("a", "a"), ("a", "a.b"), ("a.b", "a"), ("a.b", "a.b"), ("a.b", "a.b.c"), ("a", "a.b.c.d")):
            for first in (" = 1", " ! 1", " ~"):
                for second in (" = 2", " ! \"x\"", " ~"):
                    self.assertEqual(loaded(one + first + "\n" + two + second), [-3, 2])
                    self.assertEqual(loaded(two + first + "\n\nz ~\n" + one + second), [-3, 4])

    def test_settings_that_do_not_touch(self):
        for one, two in (("a", "b"), ("a", "ab"), ("a.b", "a.c"), ("a.b", "a.bc"), ("a-b", "a"), ("a_", "a"), ("a.b", "b")):
            self.assertEqual(loaded(one + " = 1\n" + two + " = 2"), TAKEN)
            self.assertEqual(loaded(two + " = 1\n" + one + " ~"), TAKEN)

    def test_touching_through_sections(self):
        self.assertEqual(loaded("a.b.c = 1\n[a]\nb = 2"), [-3, 3])
        self.assertEqual(loaded("[a]\nb = 2\n[a.b]\nc = 1"), [-3, 4])
        self.assertEqual(loaded("[a]\nb = 2\n[]\nb = 1"), TAKEN)
        self.assertEqual(loaded("[a.b]\nc = 2\n[a]\nb.c ~"), [-3, 4])

    def test_layers_may_touch(self):
        self.assertEqual(run(load(0, 0, "a = 1"), load(0, 1, "a.b = 1"), load(0, 2, "a ~")), [TAKEN] * 3)


class FirstRefusalTest(unittest.TestCase):
    def test_bounds_go_before_length_and_lines(self):
        for text in ("a", "#" * 8193, "a = 1\na = 2"):
            self.assertEqual(last(load(2, 0, text)), [-1])
            self.assertEqual(last(load(0, 4, text)), [-1])
            self.assertEqual(last(load(2, 4, text)), [-1])
        self.assertEqual(last(drop(2, 4)), [-1])

    def test_length_goes_before_lines(self):
        self.assertEqual(loaded("a\n" + "#" * 8191), [-5])
        self.assertEqual(loaded("a\n" + "#" * 8190), [-2, 1])
        self.assertEqual(loaded("?" * 8193), [-5])
        self.assertEqual(loaded(settings(65) + "#" * 8192), [-5])

    def test_k_goes_before_the_path(self):
        for asked in (kind, value, origin):
            self.assertEqual(last(asked(2, "")), [-1])
            self.assertEqual(last(asked(0, "")), [-1])
            self.assertEqual(last(asked(HUGE, "a")), [-1])

    def test_the_first_line_counts(self):
        self.assertEqual(loaded("a = 1\na = 2\n?"), [-3, 2])
        self.assertEqual(loaded("a = 1\n?\na = 2"), [-2, 2])
        self.assertEqual(loaded(settings(65) + "?"), [-4, 65])
        self.assertEqual(loaded(settings(65) + "n0 = 1"), [-4, 65])
        self.assertEqual(loaded(settings(64) + "?\nm = 1"), [-2, 65])
        self.assertEqual(loaded(filling(4097) + "\n?"), [-4, 1])

    def test_on_one_line_no_line_goes_first(self):
        self.assertEqual(loaded("a = 1\na = 02"), [-2, 2])
        self.assertEqual(loaded(settings(64) + "m = 02"), [-2, 65])
        self.assertEqual(loaded(settings(64) + "n0 = 02"), [-2, 65])
        self.assertEqual(loaded("a = \"" + "x" * 5000), [-2, 1])

    def test_on_one_line_touching_goes_before_room(self):
        self.assertEqual(loaded(settings(64) + "n0 = 1"), [-3, 65])
        self.assertEqual(loaded(settings(64) + "n63.a ~"), [-3, 65])
        self.assertEqual(loaded(filling(4096) + "\na.b = 1"), [-3, 2])
        self.assertEqual(loaded("b = 1\nb = \"" + "x" * 5000 + "\""), [-3, 2])


class StateTest(unittest.TestCase):
    WRONG = ("a", "a = 1\na = 2", "b = 1\n?", "b = 1\n[", settings(65), "b = \"" + "x" * 4096 + "\"", "#" * 8193)

    def test_a_refused_text_leaves_the_layer(self):
        for text in self.WRONG:
            told = run(
                load(0, 1, "a = 7\n[s]\nt ! \"u\""), load(0, 1, text), value(0, "a"), origin(0, "s.t"), kind(0, "b"),
                kind(0, "n0"),
            )
            self.assertLess(told[1][0], 0)
            self.assertEqual(told[2:], [[0, 1, 7], [0, 1, 3], [0, 0], [0, 0]])

    def test_a_refused_text_leaves_the_other_layers(self):
        for text in self.WRONG:
            told = run(
                load(0, 0, "a = 1"), load(1, 2, "a = 2"), load(0, 2, text), value(0, "a"), origin(1, "a"), value(1, "a"),
            )
            self.assertEqual(told[3:], [[0, 1, 1], [0, 2, 1], [0, 1, 2]])

    def test_refused_bounds_change_nothing(self):
        for call in (load(2, 0, "a = 9"), load(0, 4, "a = 9"), load(HUGE, HUGE, ""), drop(2, 0), drop(0, 4), drop(1, HUGE)):
            told = run(load(0, 0, "a = 1"), load(1, 0, "a = 2"), call, value(0, "a"), value(1, "a"))
            self.assertEqual(told[2:], [[-1], [0, 1, 1], [0, 1, 2]])

    def test_questions_change_nothing(self):
        asked = [
            kind(0, "a"), value(0, "a"), origin(0, "a"), kind(0, ""), value(0, "b"), origin(2, "a"), kind(0, "s"),
            why(0, 3, "a"), after(0, "a"), printed(0), count(0), same(),
        ]
        told = run(load(0, 3, "a = 1\ns.t = 2"), *asked, *asked)
        self.assertEqual(told[1:13], told[13:])
        self.assertEqual(told[1:8], [[0, 1], [0, 1, 1], [0, 3, 1], [-1], [-2], [-1], [0, 4]])
        self.assertEqual(told[8:13], [[0, 1], [0] + row("s.t"), [0] + row("a = 1\ns.t = 2\n"), [0, 2], [0, 0]])

    def test_refused_calls_change_nothing_of_the_whole(self):
        """T8, looked at with print, count and same."""
        refused = [load(k, layer, "z = 1") for k, layer in ((2, 0), (HUGE, 3), (0, 4), (1, HUGE), (2, 4))]
        refused += [load(k, layer, text) for text in self.WRONG for k in (0, 1) for layer in (0, 2)]
        refused += [drop(2, 0), drop(HUGE, 1), drop(0, 4), drop(1, HUGE)]
        refused += [asked(k, path) for asked in (kind, value, origin) for k, path in ((2, "a"), (0, ""), (1, "A"))]
        refused += [why(2, 0, "a"), why(0, 4, "a"), why(1, 0, "a."), after(2, ""), after(0, "a" * 128), printed(2), count(HUGE)]
        looks = [printed(0), printed(1), count(0), count(1), same(), why(0, 0, "s.t"), why(0, 2, "s.t"), after(0, "a")]
        loads = [load(k, layer, text) for k in (0, 1) for layer, text in ((0, "a = 1\ns.t ! 2"), (2, "a ! \"x\"\ns ~"))]
        text = [0] + row("a = \"x\"\ns.t = 2\n")
        expected = [text, text, [0, 2], [0, 2], [0, 1], [0, 1], [0, 0], [0] + row("s.t")]
        for call in refused:
            told = run(*loads, *looks, call, *looks)[4:]
            self.assertLess(told[8][0], 0, call)
            self.assertEqual((told[:8], told[9:]), (expected, expected), call)

    def test_a_layer_loaded_anew_is_the_new_text_alone(self):
        told = run(
            load(0, 1, "a = 1\nb = 2"), load(0, 1, "\nb = \"x\""), kind(0, "a"), value(0, "b"), origin(0, "b"),
            load(0, 1, "b.c = 5"), kind(0, "b"), value(0, "b.c"),
        )
        self.assertEqual(told, [TAKEN, TAKEN, [0, 0], [0, 3, 120], [0, 1, 2], TAKEN, [0, 4], [0, 1, 5]])

    def test_drop_empties_one_layer(self):
        told = run(
            load(0, 0, "a = 1\nb = 1"), load(0, 2, "a = 2\nc = 2"), load(1, 2, "c = 3"), drop(0, 2),
            value(0, "a"), kind(0, "c"), value(1, "c"), drop(0, 0), kind(0, "a"), kind(0, "b"), drop(0, 0),
        )
        self.assertEqual(told[3:], [TAKEN, [0, 1, 1], [0, 0], [0, 1, 3], TAKEN, [0, 0], [0, 0], TAKEN])

    def test_a_dropped_layer_can_be_loaded(self):
        told = run(load(0, 2, "a ! 2"), drop(0, 2), load(0, 3, "a = 3"), load(0, 2, "b = 4"), value(0, "a"), value(0, "b"))
        self.assertEqual(told[4:], [[0, 1, 3], [0, 1, 4]])

    def test_records_are_apart(self):
        told = run(load(0, 0, "a ! 1"), load(1, 3, "a = 2"), value(0, "a"), value(1, "a"), drop(0, 0), kind(1, "a"))
        self.assertEqual(told[2:], [[0, 1, 1], [0, 1, 2], TAKEN, [0, 1]])

    def test_the_first_example_wrong_texts(self):
        self.assertEqual(loaded("a = 01"), [-2, 1])
        self.assertEqual(loaded("a.b = 1\na = 2"), [-3, 2])
