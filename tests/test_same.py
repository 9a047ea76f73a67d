"""count and same: how many settings hold, and whether two records hold the same."""

import itertools
import unittest

from tests.helper import count, drop, last, load, run, same

HUGE = 4294967295
TAKEN = [0, 0]


def loads(k, texts):
    return [load(k, layer, text) for layer, text in texts.items()]


class CountTest(unittest.TestCase):
    def counts(self, texts, expected):
        for k in (0, 1):
            self.assertEqual(run(*loads(k, texts), count(k), count(1 - k))[-2:], [[0, expected], [0, 0]], texts)

    def test_nothing(self):
        self.counts({}, 0)
        self.counts({0: ""}, 0)
        self.counts({0: "[a]\n# b = 1"}, 0)
        self.counts({0: "a ~\nb ~"}, 0)

    def test_one(self):
        for layer in range(4):
            for text in ("a = 1", "a ! false", "[a]\nb = \"\"", "a = 0\nb ~"):
                self.counts({layer: text}, 1)

    def test_64(self):
        for how_many in (2, 63, 64):
            self.counts({2: "".join(f"n{number} = 1\n" for number in range(how_many))}, how_many)

    def test_256(self):
        self.counts({layer: "".join(f"n{number}.{layer} ! 1\n" for number in range(64)) for layer in range(4)}, 256)

    def test_several_layers(self):
        self.counts({0: "a = 1\nb = 2", 1: "c = 3", 3: "d = 4\ne = 5"}, 5)
        self.counts({0: "a = 1\nb = 2", 1: "a = 3\nc = 4"}, 3)
        self.counts({layer: "a = 1" for layer in range(4)}, 1)
        self.counts({layer: "a ! 1" for layer in range(4)}, 1)

    def test_hidden_and_barred_ones_do_not_count(self):
        self.counts({0: "a.b ! 1\nc = 2\nd = 3", 1: "a = 4\nc.x = 5\nd ~"}, 2)
        self.counts({0: "a.b = 1\na.c = 2\na.d = 3", 1: "a = 4"}, 1)
        self.counts({0: "a.b = 1\na.c = 2\na.d = 3", 1: "a ~"}, 0)
        self.counts({0: "a ! 4", 1: "a.b = 1\na.c = 2\na.d = 3"}, 1)
        self.counts({0: "a = 4", 1: "a.b = 1\na.c = 2\na.d = 3"}, 3)
        self.counts({0: "a.b ! 1\na.c = 2", 1: "a ~"}, 2)

    def test_the_documents_example(self):
        self.counts({0: "a.b = 1\n[c]\nd ! \"x\"", 3: "a = true\nc.d = 5"}, 2)

    def test_it_changes_with_the_layers(self):
        told = run(
            load(0, 0, "a = 1\nb = 2"), count(0), load(0, 1, "a ~"), count(0), load(0, 0, "c = 1"), count(0), drop(0, 1),
            count(0), drop(0, 0), count(0),
        )
        self.assertEqual(told[1::2], [[0, 2], [0, 1], [0, 1], [0, 1], [0, 0]])

    def test_k(self):
        for k, expected in ((0, [0, 1]), (1, [0, 0]), (2, [-1]), (3, [-1]), (HUGE, [-1])):
            self.assertEqual(last(load(0, 0, "a = 1"), count(k)), expected, k)


class SameTest(unittest.TestCase):
    def compare(self, one, other, expected):
        for first, second in ((one, other), (other, one)):
            self.assertEqual(last(*loads(0, first), *loads(1, second), same()), [0, expected], (first, second))

    def alike(self, one, other):
        self.compare(one, other, 1)

    def unlike(self, one, other):
        self.compare(one, other, 0)


class AlikeTest(SameTest):
    def test_both_empty(self):
        self.assertEqual(run(same()), [[0, 1]])
        self.alike({0: ""}, {3: "# x\n[s]"})
        self.alike({}, {0: "a ~"})
        self.alike({0: "a = 1", 1: "a ~"}, {2: "b ~"})

    def test_the_same_texts(self):
        for text in ("a = 1", "a = true", "a = \"x\"", "a = \"\"\nb = -5\nc.d ! false"):
            for layer in range(4):
                self.alike({layer: text}, {layer: text})

    def test_other_layers(self):
        for one in range(4):
            for other in range(4):
                self.alike({one: "a = 1\nb.c = \"x\""}, {other: "a = 1\nb.c = \"x\""})
        self.alike({0: "a = 1", 1: "b = 2", 2: "c = 3"}, {3: "a = 1\nb = 2\nc = 3"})

    def test_other_lines(self):
        self.alike({0: "a = 1\nb = 2"}, {0: "b = 2\n\n# x\na = 1"})
        self.alike({0: "a = 1"}, {0: "\n\n\na = 1"})

    def test_other_ways_of_writing(self):
        self.alike({0: "a.b.c = 1"}, {0: "[a]\nb.c = 1"})
        self.alike({0: "a.b.c = 1"}, {0: " [ a.b ] \n\tc\t=\t1\t"})
        self.alike({0: "a = \"\\x41\\x0a\\x09\\x22\\x5c\\xff\""}, {0: "a = \"A\\n\\t\\\"\\\\\xff\""})

    def test_a_final_setting_against_a_plain_one(self):
        for value in ("1", "true", "\"x\""):
            self.alike({0: "a ! " + value}, {0: "a = " + value})
            self.alike({0: "a ! " + value}, {3: "a = " + value})

    def test_what_does_not_hold_makes_no_difference(self):
        self.alike({0: "a = 1", 1: "a = 2"}, {0: "a = 2"})
        self.alike({0: "a ! 1", 1: "a = 2"}, {0: "a = 1"})
        self.alike({0: "a ! 1", 1: "a.b = 2\nc ~"}, {0: "a = 1"})
        self.alike({0: "a.b = 1\nc = 3", 1: "a ~"}, {0: "c = 3"})


class UnlikeTest(SameTest):
    def test_one_path_more(self):
        self.unlike({0: "a = 1"}, {})
        self.unlike({0: "a = 1\nb = 2"}, {0: "a = 1"})
        self.unlike({0: "a = 1\nb = 2"}, {0: "b = 2"})
        self.unlike({0: "a = 1", 1: "b = 2"}, {0: "a = 1"})
        self.unlike({0: "a = false"}, {})
        self.unlike({0: "a = \"\""}, {})

    def test_other_paths(self):
        self.unlike({0: "a = 1"}, {0: "b = 1"})
        self.unlike({0: "a.b = 1"}, {0: "a = 1"})
        self.unlike({0: "a.b = 1"}, {0: "a-b = 1"})
        self.unlike({0: "a = 1\nb = 2"}, {0: "a = 1\nc = 2"})
        self.unlike({0: "a = 1\nb = 2"}, {0: "a = 2\nb = 1"})

    def test_other_values_of_one_kind(self):
        for one, other in (
            ("1", "2"), ("1", "-1"), ("0", "1"), ("9223372036854775807", "9223372036854775806"), ("true", "false"),
            ("\"x\"", "\"y\""), ("\"x\"", "\"\""), ("\"x\"", "\"xx\""), ("\"x\"", "\"X\""), ("\"\"", "\" \""), ("\"\\x00\"", "\"\""),
        ):
            self.unlike({0: "a = " + one}, {0: "a = " + other})

    def test_values_of_one_look(self):
        for one, other in itertools.combinations(("true", "1", "\"true\"", "\"1\"", "\"\\x01\"", "\"\""), 2):
            self.unlike({0: "a = " + one}, {0: "a = " + other})
        for one, other in itertools.combinations(("false", "0", "\"false\"", "\"0\"", "\"\\x00\"", "\"\""), 2):
            self.unlike({0: "a = " + one}, {0: "a = " + other})
        self.unlike({0: "a = 65"}, {0: "a = \"A\""})

    def test_the_last_of_many(self):
        text = "".join(f"n{number:02d} = {number}\n" for number in range(63))
        self.alike({0: text + "z = 1"}, {1: "z = 1\n" + text})
        self.unlike({0: text + "z = 1"}, {1: "z = 2\n" + text})
        self.unlike({0: text + "z = 1"}, {1: "y = 1\n" + text})
        self.unlike({0: text + "z = 1"}, {1: text})


class SameStateTest(unittest.TestCase):
    def test_it_changes_with_the_layers(self):
        told = run(
            same(), load(0, 0, "a = 1"), same(), load(1, 3, "a = 1"), same(), load(1, 0, "a ! 2"), same(), drop(1, 0), same(),
            drop(1, 3), same(), drop(0, 0), same(),
        )
        self.assertEqual(told[::2], [[0, 1], [0, 0], [0, 1], [0, 0], [0, 1], [0, 0], [0, 1]])

    def test_it_is_a_call_of_one_number(self):
        told = run(same(), same(), load(0, 0, "a ~"), same(), count(0), same())
        self.assertEqual(told, [[0, 1], [0, 1], TAKEN, [0, 1], [0, 0], [0, 1]])
