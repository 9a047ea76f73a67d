"""What holds: strongest layers, final words, unsettings, what is barred and what is hidden."""

import itertools
import unittest

from tests.helper import after, count, drop, kind, load, origin, printed, run, same, value, why

NOTHING = [[0, 0], [-2], [-2]]


def below(layers):
    return [load(0, layer, text) for layer, text in layers.items()]


def at(layers, path):
    """kind, value and origin at the path, where the layers have these texts."""
    return run(*below(layers), kind(0, path), value(0, path), origin(0, path))[-3:]


class HoldingTest(unittest.TestCase):
    def holds(self, layers, path, number, layer, line=1):
        self.assertEqual(at(layers, path), [[0, 1], [0, 1, number], [0, layer, line]])

    def nothing(self, layers, path):
        self.assertEqual(at(layers, path), NOTHING)

    def only_below(self, layers, path):
        self.assertEqual(at(layers, path), [[0, 4], [-2], [-2]])


class ExampleTest(unittest.TestCase):
    def test_the_documents_example(self):
        told = run(
            load(0, 0, "a.b = 1\n[c]\nd ! \"x\""), load(0, 3, "a = true\nc.d = 5"),
            kind(0, "a"), kind(0, "a.b"), kind(0, "c"), value(0, "c.d"), value(0, "a"), value(0, "a.b"),
            origin(0, "a"), origin(0, "c.d"), origin(0, "c"), kind(1, "a"),
        )
        self.assertEqual(told[:2], [[0, 0], [0, 0]])
        self.assertEqual(told[2:6], [[0, 2], [0, 0], [0, 4], [0, 3, 120]])
        self.assertEqual(told[6:], [[0, 2, 1], [-2], [0, 3, 1], [0, 0, 3], [-2], [0, 0]])


class StrongestTest(HoldingTest):
    def test_one_layer_alone(self):
        for layer in range(4):
            self.holds({layer: "#\na = 5"}, "a", 5, layer, 2)
            self.holds({layer: "a ! 5"}, "a", 5, layer)
            self.nothing({layer: "a ~"}, "a")

    def test_the_strongest_layer_holds(self):
        texts = {layer: f"a = {layer}" for layer in range(4)}
        for how_many in range(1, 5):
            for layers in itertools.combinations(range(4), how_many):
                self.holds({layer: texts[layer] for layer in layers}, "a", max(layers), max(layers))

    def test_paths_that_do_not_touch_hold_beside_each_other(self):
        layers = {0: "a = 0\nab = 1\na-b = 2\nc.d = 3", 3: "a = 9\nc.e = 8"}
        for path, number, layer, line in (("a", 9, 3, 1), ("ab", 1, 0, 2), ("a-b", 2, 0, 3), ("c.d", 3, 0, 4), ("c.e", 8, 3, 2)):
            self.holds(layers, path, number, layer, line)

    def test_hidden_by_a_setting_above(self):
        layers = {0: "a.b = 1\na.c.d = 2", 1: "a = 3"}
        self.holds(layers, "a", 3, 1)
        for path in ("a.b", "a.c", "a.c.d"):
            self.nothing(layers, path)

    def test_hidden_by_a_setting_below(self):
        layers = {0: "a = 1", 2: "a.b.c = 2"}
        self.holds(layers, "a.b.c", 2, 2)
        self.only_below(layers, "a")
        self.only_below(layers, "a.b")

    def test_what_is_hidden_hides(self):
        layers = {0: "a.b = 1", 1: "a = 2", 2: "a.c = 3"}
        self.nothing(layers, "a.b")
        self.only_below(layers, "a")
        self.holds(layers, "a.c", 3, 2)

    def test_hidden_by_an_unsetting(self):
        self.nothing({0: "a = 1", 1: "a ~"}, "a")
        self.nothing({0: "a.b = 1", 1: "a ~"}, "a.b")
        self.nothing({0: "a.b = 1", 1: "a ~"}, "a")
        self.nothing({0: "a = 1", 1: "a.b ~"}, "a")
        self.nothing({0: "a = 1", 1: "a.b ~"}, "a.b")

    def test_an_unsetting_spares_what_it_does_not_touch(self):
        layers = {0: "a.b = 1\na.c = 2\nab = 3", 1: "a.b ~"}
        self.nothing(layers, "a.b")
        self.holds(layers, "a.c", 2, 0, 2)
        self.holds(layers, "ab", 3, 0, 3)
        self.only_below(layers, "a")

    def test_a_stronger_layer_speaks_over_an_unsetting(self):
        self.holds({0: "a = 1", 1: "a ~", 2: "a = 3"}, "a", 3, 2)
        self.holds({1: "a ~", 2: "a.b = 3"}, "a.b", 3, 2)

    def test_a_weaker_layer_does_not_speak_over_an_unsetting(self):
        self.nothing({0: "a = 1", 1: "a = 2", 2: "a ~"}, "a")

    def test_an_unsetting_that_is_hidden_hides(self):
        layers = {0: "a.b = 1", 1: "a ~", 2: "a.c = 3"}
        self.nothing(layers, "a.b")
        self.holds(layers, "a.c", 3, 2)

    def test_values_of_other_kinds(self):
        self.assertEqual(at({0: "a = 1", 1: "a = \"x\""}, "a"), [[0, 3], [0, 3, 120], [0, 1, 1]])
        self.assertEqual(at({0: "a = \"x\"", 1: "a = false"}, "a"), [[0, 2], [0, 2, 0], [0, 1, 1]])


class FinalTest(HoldingTest):
    def test_a_final_setting_holds(self):
        for layer in range(4):
            layers = {other: "a = 9" for other in range(4)}
            layers[layer] = f"a ! {layer}"
            self.holds(layers, "a", layer, layer)

    def test_of_two_final_ones_the_weaker_holds(self):
        self.holds({1: "a ! 1", 2: "a ! 2", 3: "a ! 3"}, "a", 1, 1)

    def test_it_bars_above_and_below(self):
        layers = {0: "a.b ! 1", 1: "a = 2", 2: "a.b.c = 3", 3: "a.c = 4"}
        self.holds(layers, "a.b", 1, 0)
        self.nothing(layers, "a.b.c")
        self.holds(layers, "a.c", 4, 3)
        self.only_below(layers, "a")

    def test_it_bars_unsettings(self):
        for text in ("a ~", "a.b ~", "a.b.c ~"):
            self.holds({0: "a.b ! 1", 3: text}, "a.b", 1, 0)

    def test_a_barred_unsetting_hides_nothing(self):
        layers = {0: "a.b ! 1\na.c = 2", 1: "a ~"}
        self.holds(layers, "a.b", 1, 0, 1)
        self.holds(layers, "a.c", 2, 0, 2)

    def test_a_barred_setting_hides_nothing(self):
        layers = {0: "a.b ! 1\na.c = 2", 1: "a.d = 3", 2: "a = 4"}
        self.holds(layers, "a.c", 2, 0, 2)
        self.holds(layers, "a.d", 3, 1)
        self.nothing({0: "a ! 1", 1: "a.b = 2"}, "a.b")

    def test_a_barred_final_setting_bars_nothing(self):
        layers = {0: "a.b ! 1", 1: "a ! 2", 2: "a.c = 3"}
        self.holds(layers, "a.b", 1, 0)
        self.holds(layers, "a.c", 3, 2)
        self.only_below(layers, "a")

    def test_a_row_of_final_settings(self):
        layers = {0: "a.b ! 1", 1: "a ! 2", 2: "a.c ! 3", 3: "a.c.d = 4\na.e = 5"}
        self.holds(layers, "a.b", 1, 0)
        self.holds(layers, "a.c", 3, 2)
        self.nothing(layers, "a.c.d")
        self.holds(layers, "a.e", 5, 3, 2)

    def test_a_final_setting_does_not_bar_weaker_layers_but_hides_them(self):
        layers = {0: "a = 1", 1: "a.b ! 2", 2: "a = 3"}
        self.holds(layers, "a.b", 2, 1)
        self.only_below(layers, "a")
        self.nothing({0: "a.b = 1", 1: "a ! 2", 2: "a.b = 3"}, "a.b")

    def test_a_weaker_final_setting_is_hidden_by_nobody(self):
        layers = {0: "a.b.c ! 1", 1: "a ~", 2: "a.b = 2", 3: "a.b.c.d ! 4"}
        self.holds(layers, "a.b.c", 1, 0)
        self.nothing(layers, "a.b.c.d")
        self.only_below(layers, "a.b")

    def test_the_bar_goes_with_its_layer(self):
        told = run(
            load(0, 0, "a ! 1"), load(0, 2, "a = 2"), value(0, "a"), load(0, 0, "a = 1"), value(0, "a"),
            load(0, 0, "a ! 1"), value(0, "a"), drop(0, 0), value(0, "a"), load(0, 1, "a ! 3"), value(0, "a"),
        )
        self.assertEqual([told[place] for place in (2, 4, 6, 8, 10)], [[0, 1, 1], [0, 1, 2], [0, 1, 1], [0, 1, 2], [0, 1, 3]])

    def test_a_bar_that_falls_lifts_another(self):
        told = run(
            load(0, 0, "a.b ! 1"), load(0, 1, "a ! 2"), load(0, 2, "a.c = 3"), kind(0, "a"), value(0, "a.c"),
            drop(0, 0), kind(0, "a"), value(0, "a"), value(0, "a.c"),
        )
        self.assertEqual(told[3:], [[0, 4], [0, 1, 3], [0, 0], [0, 1], [0, 1, 2], [-2]])


class OrderTest(unittest.TestCase):
    TEXTS = {0: "a.b ! 1\nc = 2\nd = 3", 1: "a = 4\nc.x = 5\nd ~", 2: "[a]\nc ! true\n[]\nd = 6", 3: "a.c.d = 7\nc ~\ne = \"\""}
    PATHS = ("a", "a.b", "a.c", "a.c.d", "c", "c.x", "d", "e", "f")

    def asked(self, k):
        asked = [call(k, path) for path in self.PATHS for call in (kind, value, origin, after)]
        asked += [why(k, layer, path) for path in self.PATHS for layer in range(4)]
        return asked + [printed(k), count(k)]

    def test_the_order_of_loading_makes_no_difference(self):
        expected = run(*[load(0, layer, self.TEXTS[layer]) for layer in range(4)], *self.asked(0))[4:]
        for order in itertools.permutations(range(4)):
            calls = [load(1, layer, self.TEXTS[layer]) for layer in order]
            self.assertEqual(run(*calls, *self.asked(1))[4:], expected, order)

    def test_what_was_there_before_makes_no_difference(self):
        expected = run(*[load(0, layer, self.TEXTS[layer]) for layer in range(4)], *self.asked(0))[4:]
        for order in itertools.permutations(range(4)):
            calls = [load(0, layer, "a ! 9\nc ~\nd ! 8\ne.f = 0") for layer in order]
            calls += [load(0, layer, self.TEXTS[layer]) for layer in reversed(order)]
            self.assertEqual(run(*calls, *self.asked(0))[8:], expected, order)

    def test_a_layer_loaded_again_changes_nothing(self):
        loads = [load(0, layer, self.TEXTS[layer]) for layer in range(4)]
        expected = run(*loads, *self.asked(0))[4:]
        for layer in range(4):
            self.assertEqual(run(*loads, loads[layer], *self.asked(0))[5:], expected, layer)

    def test_records_loaded_in_other_orders_are_the_same(self):
        loads = [load(0, layer, self.TEXTS[layer]) for layer in range(4)]
        for order in itertools.permutations(range(4)):
            calls = [load(1, layer, self.TEXTS[layer]) for layer in order]
            self.assertEqual(run(*loads, *calls, same())[8], [0, 1], order)


class OneKindTest(unittest.TestCase):
    def test_kinds(self):
        text = "n = 0\nf = false\nt = \"\"\nd.e.f = 1"
        for path, number in (("n", 1), ("f", 2), ("t", 3), ("d", 4), ("d.e", 4), ("d.e.f", 1), ("d.e.f.g", 0), ("x", 0), ("d.x", 0)):
            self.assertEqual(run(load(0, 0, text), kind(0, path))[1], [0, number], path)

    def test_a_path_begun_within_a_name_is_not_above_it(self):
        text = "abc.def = 1"
        for path in ("a", "ab", "abc.d", "abc.de", "abc.def.g", "abcd"):
            self.assertEqual(run(load(0, 0, text), kind(0, path))[1], [0, 0], path)

    def test_below_goes_when_nothing_holds_there(self):
        told = run(load(0, 0, "a.b = 1"), kind(0, "a"), load(0, 1, "a.b ~"), kind(0, "a"), drop(0, 1), kind(0, "a"))
        self.assertEqual([told[1], told[3], told[5]], [[0, 4], [0, 0], [0, 4]])
