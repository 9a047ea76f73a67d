"""The interface: the form of what is handed in and given back, and that nothing is changed or kept."""

import unittest

from saylayers.records import answers
from tests.helper import apart, counted, drop, kind, load, origin, run, value


def joined(calls):
    given = []
    for call in calls:
        given += call
    return given


class FormTest(unittest.TestCase):
    def test_no_calls(self):
        self.assertEqual(answers([]), [])

    def test_the_numbers_as_they_stand(self):
        given = [1, 0, 3, 5, 97, 32, 61, 32, 55, 3, 0, 1, 97, 4, 0, 1, 97, 5, 0, 1, 97, 2, 0, 3, 4, 0, 1, 97, 5, 0, 0]
        self.assertEqual(answers(given), [2, 0, 0, 2, 0, 1, 3, 0, 1, 7, 3, 0, 3, 1, 2, 0, 0, 1, -2, 1, -1])

    def test_refusals_of_load_as_they_stand(self):
        self.assertEqual(answers([1, 0, 0, 1, 97]), [2, -2, 1])
        self.assertEqual(answers([1, 0, 0, 5, 97, 126, 10, 97, 126]), [2, -3, 2])
        self.assertEqual(answers([1, 0, 4, 1, 97]), [1, -1])
        self.assertEqual(answers([1, 0, 0, 8193] + [10] * 8193), [1, -5])
        self.assertEqual(answers([1, 0, 0, 8300] + [255] * 8300), [1, -5])

    def test_texts_are_told_without_their_count(self):
        self.assertEqual(answers(load(0, 0, 'a = ""') + value(0, "a")), [2, 0, 0, 2, 0, 3])
        self.assertEqual(answers(load(0, 0, 'a = "xyz"') + value(0, "a")), [2, 0, 0, 5, 0, 3, 120, 121, 122])

    def test_rows_of_no_numbers(self):
        self.assertEqual(answers(load(0, 0, "") + kind(0, "") + value(0, "") + origin(0, "")), [2, 0, 0, 1, -1, 1, -1, 1, -1])

    def test_all_is_ints_in_a_list(self):
        told = answers(load(0, 0, "a = true\nb = 1\nc = \"x\"") + value(0, "a") + kind(0, "a") + value(0, "c") + drop(0, 0))
        self.assertEqual(told.__class__, list)
        self.assertEqual({number.__class__ for number in told}, {int})


class KeptTest(unittest.TestCase):
    CALLS = joined([
        load(0, 0, "a ! 1\n[b]\nc = \"x\\x00\""), load(1, 3, "a ~"), load(0, 1, "a"), kind(0, "b"), value(0, "b.c"),
        origin(0, "a"), drop(0, 0), kind(0, "a"),
    ])

    def test_what_is_handed_in_is_not_changed(self):
        given = list(self.CALLS)
        answers(given)
        self.assertEqual(given, self.CALLS)

    def test_nothing_is_kept(self):
        first = answers(self.CALLS)
        self.assertEqual(answers(load(0, 0, "a = 1") + load(1, 1, "b ! 2")), [2, 0, 0, 2, 0, 0])
        self.assertEqual(answers(kind(0, "a") + kind(1, "b")), [2, 0, 0, 2, 0, 0])
        self.assertEqual(answers(self.CALLS), first)

    def test_what_is_given_back_is_new(self):
        one = answers(self.CALLS)
        one.append(5)
        self.assertEqual(answers(self.CALLS), one[:-1])
        self.assertIsNot(answers([]), answers([]))


class LongTest(unittest.TestCase):
    def test_400_calls(self):
        calls = [load(0, 0, "a = 1")] + [kind(0, "a"), value(1, "a"), drop(1, 0)] * 133
        self.assertEqual(len(calls), 400)
        self.assertEqual(run(*calls), [[0, 0]] + [[0, 1], [-2], [0, 0]] * 133)

    def test_30000_numbers(self):
        text = "\n".join(f"{'s' * 20}.{'t' * 20}.n{number:02d} = \"{'x' * 19}\"" for number in range(64))
        full = [load(k, layer, text) for k in (0, 1) for layer in range(4)]
        self.assertLess(len(text), 8192)
        given = []
        for call in full * 10:
            if len(given) + len(call) <= 29000:
                given += call
        loads = len(apart(answers(given)))
        asked = value(0, "s" * 20 + "." + "t" * 20 + ".n63")
        while len(given) + len(asked) <= 30000:
            given += asked
        given += drop(0, 3) * ((30000 - len(given)) // 3)
        self.assertLessEqual(len(given), 30000)
        self.assertGreater(len(given), 29990)
        told = apart(answers(given))
        self.assertEqual(told[:loads], [[0, 0]] * loads)
        self.assertEqual(told[loads], [0, 3] + [120] * 19)

    def test_three_texts_of_8300_numbers(self):
        given = ([1, 0, 0, 8300] + [97] * 8300) * 3
        self.assertEqual(answers(given), [1, -5] * 3)

    def test_long_lines(self):
        for sign in "a.[]\"\\=~!#- 0":
            told = run(load(0, 0, sign * 8192))[0]
            self.assertEqual(told, [0, 0] if sign in "# " else [-2, 1], sign)

    def test_questions_between_changes(self):
        path = ".".join(["name"] * 7)
        text = "\n".join(f"{path}.n{number} = {number}" for number in range(60))
        loads = [load(0, layer, text) for layer in range(4)]
        asked = [drop(0, 3), origin(0, path + ".n59")] * 198
        told = run(*loads, *asked)
        self.assertEqual(len(loads + asked), 400)
        self.assertEqual(told[4:], [[0, 0], [0, 2, 60]] * 198)

    def test_a_path_of_200_numbers(self):
        for asked in (3, 4, 5):
            self.assertEqual(answers([asked, 0] + counted("n" * 200)), [1, -1])
