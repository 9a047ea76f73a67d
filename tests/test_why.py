"""why: what has become of a layer's setting."""

import unittest

from tests.helper import drop, kind, last, load, origin, path_of, run, value, why

NONE, HOLDS, HIDDEN, BARRED, UNSETTING = range(5)
HUGE = 4294967295


class WhyTest(unittest.TestCase):
    def becomes(self, layers, layer, path, expected):
        for k in (0, 1):
            loads = [load(k, place, text) for place, text in layers.items()]
            self.assertEqual(last(*loads, why(k, layer, path)), [0, expected], (layers, layer, path))
            self.assertEqual(last(*loads, why(1 - k, layer, path)), [0, NONE], (layers, layer, path))


class OrdinaryTest(WhyTest):
    def test_the_documents_example(self):
        layers = {0: "a.b = 1\n[c]\nd ! \"x\"", 3: "a = true\nc.d = 5"}
        self.becomes(layers, 3, "c.d", BARRED)
        self.becomes(layers, 0, "a.b", HIDDEN)
        self.becomes(layers, 0, "c.d", HOLDS)
        self.becomes(layers, 3, "a", HOLDS)

    def test_it_holds(self):
        for layer in range(4):
            for text in ("a = 1", "a ! 1", "a = false", "a = \"\"", "b ~\na = 1", "#\n\n[]\na=0"):
                self.becomes({layer: text}, layer, "a", HOLDS)
        self.becomes({1: "[s.t]\nu = 1"}, 1, "s.t.u", HOLDS)

    def test_it_is_hidden(self):
        for weak in range(4):
            for strong in range(weak + 1, 4):
                for text in ("a.b = 1", "a = 1", "a.b.c ! 1", "a.b ~", "a ~", "a.b.c ~"):
                    self.becomes({weak: "a.b = 1", strong: text}, weak, "a.b", HIDDEN)

    def test_it_is_barred(self):
        for weak in range(4):
            for strong in range(weak + 1, 4):
                for text in ("a.b ! 1", "a ! 1", "a.b.c ! 1"):
                    for setting in ("a.b = 1", "a.b ! 1", "a.b ~"):
                        self.becomes({weak: text, strong: setting}, strong, "a.b", BARRED)

    def test_the_final_setting_that_bars_holds(self):
        for text in ("a = 1", "a.b = 1", "a.b.c ~", "a.b ! 2"):
            layers = {1: "a.b ! 1", 2: text, 3: text}
            self.becomes(layers, 1, "a.b", HOLDS)
            self.becomes(layers, 2, text.split()[0], BARRED)
            self.becomes(layers, 3, text.split()[0], BARRED)

    def test_a_barred_setting_is_barred_where_it_would_be_hidden(self):
        layers = {0: "a.b ! 1", 1: "a = 2", 2: "a.c = 3"}
        self.becomes(layers, 1, "a", BARRED)
        self.becomes(layers, 2, "a.c", HOLDS)

    def test_a_barred_setting_hides_and_bars_nothing(self):
        layers = {0: "a.b ! 1\na.c = 2", 1: "a ! 3", 2: "a.d = 4"}
        self.becomes(layers, 1, "a", BARRED)
        self.becomes(layers, 0, "a.c", HOLDS)
        self.becomes(layers, 2, "a.d", HOLDS)

    def test_what_is_hidden_hides(self):
        layers = {0: "a.b = 1", 1: "a = 2", 2: "a.c = 3"}
        self.becomes(layers, 0, "a.b", HIDDEN)
        self.becomes(layers, 1, "a", HIDDEN)
        self.becomes(layers, 2, "a.c", HOLDS)

    def test_a_final_setting_hides_weaker_ones(self):
        self.becomes({0: "a = 1", 1: "a.b ! 2"}, 0, "a", HIDDEN)

    def test_settings_that_do_not_touch(self):
        layers = {0: "a = 1", 1: "ab = 2", 2: "a-b ~", 3: "b.a ! 3"}
        self.becomes(layers, 0, "a", HOLDS)
        self.becomes(layers, 1, "ab", HOLDS)
        self.becomes(layers, 2, "a-b", UNSETTING)
        self.becomes(layers, 3, "b.a", HOLDS)


class UnsettingTest(WhyTest):
    def test_an_unsetting_alone(self):
        for layer in range(4):
            self.becomes({layer: "a ~"}, layer, "a", UNSETTING)

    def test_an_unsetting_that_hides(self):
        layers = {0: "a = 1", 2: "a ~"}
        self.becomes(layers, 2, "a", UNSETTING)
        self.becomes(layers, 0, "a", HIDDEN)

    def test_an_unsetting_that_is_hidden(self):
        for text in ("a.b = 1", "a = 1", "a.b.c ! 1", "a ~"):
            self.becomes({1: "a.b ~", 2: text}, 1, "a.b", UNSETTING)

    def test_an_unsetting_that_is_barred(self):
        for text in ("a.b ! 1", "a ! 1", "a.b.c ! 1"):
            self.becomes({1: text, 2: "a.b ~"}, 2, "a.b", BARRED)
            self.becomes({1: text, 2: "a.b ~", 3: "a.b = 5"}, 2, "a.b", BARRED)

    def test_an_unsetting_bars_nothing(self):
        self.becomes({0: "a ~", 1: "a = 1"}, 1, "a", HOLDS)


class NoneThereTest(WhyTest):
    def test_an_empty_record(self):
        for layer in range(4):
            self.becomes({}, layer, "a", NONE)

    def test_another_layer_has_one(self):
        for other in range(4):
            for text in ("a = 1", "a ! 1", "a ~"):
                for layer in range(4):
                    if layer != other:
                        self.becomes({other: text}, layer, "a", NONE)

    def test_it_has_one_above_or_below(self):
        for layer in range(4):
            for text in ("a.b = 1", "a.b ! 1", "a.b ~"):
                for path in ("a", "a.b.c", "a.bc", "a.c", "b", "ab", "a-b"):
                    self.becomes({layer: text}, layer, path, NONE)

    def test_none_there_goes_before_what_others_say(self):
        self.becomes({0: "a ! 1", 1: "b = 1"}, 1, "a", NONE)
        self.becomes({0: "b = 1", 1: "a ~"}, 0, "a", NONE)
        self.becomes({0: "a ! 1", 1: "a = 1"}, 1, "a.b", NONE)

    def test_it_goes_with_its_layer(self):
        told = run(
            load(0, 0, "a ! 1"), load(0, 2, "a = 2"), why(0, 0, "a"), why(0, 2, "a"), drop(0, 0), why(0, 0, "a"),
            why(0, 2, "a"), load(0, 2, "a ~"), why(0, 2, "a"), load(0, 2, "b = 1"), why(0, 2, "a"), why(0, 2, "b"),
        )
        self.assertEqual(
            [told[place] for place in (2, 3, 5, 6, 8, 10, 11)],
            [[0, HOLDS], [0, BARRED], [0, NONE], [0, HOLDS], [0, UNSETTING], [0, NONE], [0, HOLDS]],
        )


class RefusalTest(unittest.TestCase):
    def test_layer(self):
        for layer, expected in ((0, [0, 0]), (3, [0, 1]), (4, [-1]), (5, [-1]), (HUGE, [-1])):
            for k in (0, 1):
                self.assertEqual(last(load(k, 3, "a = 1"), why(k, layer, "a")), expected, layer)

    def test_k(self):
        for k, expected in ((0, [0, 1]), (1, [0, 0]), (2, [-1]), (3, [-1]), (HUGE, [-1])):
            self.assertEqual(last(load(0, 0, "a = 1"), why(k, 0, "a")), expected, k)

    def test_no_paths(self):
        for path in ("", ".", "a.", ".a", "a..b", "A", "a b", "a\n", "\x00", "\xe9", "n" * 25, path_of(128), "n" * 200):
            self.assertEqual(last(load(0, 0, "a = 1"), why(0, 0, path)), [-1], path)
        self.assertEqual(last(why(0, 0, ".".join("abcdefghi"))), [-1])

    def test_the_longest_paths(self):
        for path in ("n" * 24, path_of(127), ".".join("abcdefgh")):
            self.assertEqual(last(load(0, 1, path + " = 1"), why(0, 1, path)), [0, HOLDS], path)

    def test_several_refusals_at_once(self):
        for call in (why(2, 4, ""), why(2, 0, ""), why(0, 4, ""), why(HUGE, HUGE, "A"), why(2, 4, "a")):
            self.assertEqual(last(load(0, 0, "a = 1"), call), [-1], call)


class ToldTest(unittest.TestCase):
    """T7: a setting either holds, with its layer and line told, or it is told why not."""

    TEXTS = {
        0: "a.b ! 1\nc = 2\nd = 3\ne.f = \"\"", 1: "a = 4\nc.x = 5\nd ~\ne ~",
        2: "[a]\nc ! true\n[]\nd = 6\ne.f.g ! 0", 3: "a.c.d = 7\nc ~\ne = \"\"\n[z]\nz ! -1",
    }
    SETTINGS = {
        (0, "a.b"): (1, 1), (0, "c"): (2, 2), (0, "d"): (2, 3), (0, "e.f"): (2, 4),
        (1, "a"): (3, 1), (1, "c.x"): (2, 2), (1, "d"): (4, 3), (1, "e"): (4, 4),
        (2, "a.c"): (1, 2), (2, "d"): (1, 4), (2, "e.f.g"): (1, 5),
        (3, "a.c.d"): (3, 1), (3, "c"): (4, 2), (3, "e"): (3, 3), (3, "z.z"): (1, 5),
    }

    def test_every_setting_is_told(self):
        loads = [load(1, layer, text) for layer, text in self.TEXTS.items()]
        self.assertEqual(run(*loads), [[0, 0]] * 4)
        for (layer, path), (becomes, line) in self.SETTINGS.items():
            told = run(*loads, why(1, layer, path), origin(1, path), kind(1, path), value(1, path))[4:]
            self.assertEqual(told[0], [0, becomes], (layer, path))
            self.assertEqual(told[1] == [0, layer, line], becomes == HOLDS, (layer, path))
            if becomes == HOLDS:
                self.assertEqual(told[3][:2], told[2], (layer, path))
