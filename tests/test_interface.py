"""The interface: the form of what is handed in and given back, and that nothing is changed or kept."""

import unittest

from saylayers.records import answers
from tests.helper import after, apart, count, counted, drop, kind, load, origin, printed, row, run, same, value, why


def joined(calls):
    given = []
    for call in calls:
        given += call
    return given


class Guarded(list):
    """A list that can be read alone."""

    def refuse(self, *given):
        raise AssertionError("what is handed in is changed")

    append = extend = insert = pop = remove = clear = sort = reverse = refuse
    __setitem__ = __delitem__ = __iadd__ = __imul__ = refuse


class FormTest(unittest.TestCase):
    def test_no_calls(self):
        self.assertEqual(answers([]), [])

    def test_the_numbers_as_they_stand(self):
        given = [1, 0, 3, 5, 97, 32, 61, 32, 55, 3, 0, 1, 97, 4, 0, 1, 97, 5, 0, 1, 97, 2, 0, 3, 4, 0, 1, 97, 5, 0, 0]
        self.assertEqual(answers(given), [2, 0, 0, 2, 0, 1, 3, 0, 1, 7, 3, 0, 3, 1, 2, 0, 0, 1, -2, 1, -1])

    def test_refusals_of_load_as_they_stand(self):
        self.assertEqual(answers([1, 0, 0, 1, 97]), [2, -2, 1])
        self.assertEqual(answers([1, 0, 0, 5, 97, 126, 10, 97, 126]), [2, -3, 2])
        self.assertEqual(answers([1, 0, 4, 1, 97]), [1, -1])
        self.assertEqual(answers([1, 0, 0, 8193] + [10] * 8193), [1, -5])
        self.assertEqual(answers([1, 0, 0, 8300] + [255] * 8300), [1, -5])

    def test_texts_are_told_without_their_count(self):
        self.assertEqual(answers(load(0, 0, 'a = ""') + value(0, "a")), [2, 0, 0, 2, 0, 3])
        self.assertEqual(answers(load(0, 0, 'a = "xyz"') + value(0, "a")), [2, 0, 0, 5, 0, 3, 120, 121, 122])

    def test_the_later_calls_as_they_stand(self):
        given = [1, 1, 2, 5, 97, 32, 61, 32, 55, 6, 1, 2, 1, 97, 7, 1, 0, 7, 1, 1, 97, 8, 1, 9, 1, 10, 8, 0, 9, 0, 2, 1, 2, 10]
        self.assertEqual(answers(given), (
            [2, 0, 0, 2, 0, 1, 2, 0, 97, 1, 0, 7, 0, 97, 32, 61, 32, 55, 10, 2, 0, 1, 2, 0, 0, 1, 0, 2, 0, 0, 2, 0, 0, 2, 0, 1]
        ))

    def test_refusals_of_the_later_calls_as_they_stand(self):
        self.assertEqual(answers([6, 2, 0, 1, 97, 6, 0, 4, 1, 97, 6, 0, 0, 0]), [1, -1, 1, -1, 1, -1])
        self.assertEqual(answers([7, 2, 0, 7, 0, 128] + [255] * 128 + [8, 2, 9, 2]), [1, -1, 1, -1, 1, -1, 1, -1])

    def test_the_documents_examples(self):
        told = run(
            load(0, 0, "a.b = 1\n[c]\nd ! \"x\""), load(0, 3, "a = true\nc.d = 5"), kind(0, "a"), kind(0, "a.b"), kind(0, "c"),
            value(0, "c.d"), why(0, 3, "c.d"), why(0, 0, "a.b"), printed(0), load(0, 0, "a = 01"),
            load(0, 0, "a.b = 1\na = 2"), printed(0),
        )
        text = [0] + row("a = true\nc.d = \"x\"\n")
        self.assertEqual(told, [
            [0, 0], [0, 0], [0, 2], [0, 0], [0, 4], [0, 3, 120], [0, 3], [0, 2], text, [-2, 1], [-3, 2], text,
        ])

    def test_rows_of_no_numbers(self):
        self.assertEqual(answers(load(0, 0, "") + kind(0, "") + value(0, "") + origin(0, "")), [2, 0, 0, 1, -1, 1, -1, 1, -1])

    def test_all_is_ints_in_a_list(self):
        told = answers(joined([
            load(0, 0, "a = true\nb = 1\nc = \"x\""), value(0, "a"), kind(0, "a"), value(0, "c"), origin(0, "b"), same(),
            why(0, 0, "a"), after(0, "a"), printed(0), count(0), load(1, 0, "a=true\nb=1\nc=\"x\""), same(), drop(0, 0),
        ]))
        self.assertEqual(told.__class__, list)
        self.assertEqual({number.__class__ for number in told}, {int})


class KeptTest(unittest.TestCase):
    CALLS = joined([
        load(0, 0, "a ! 1\n[b]\nc = \"x\\x00\""), load(1, 3, "a ~"), load(0, 1, "a"), kind(0, "b"), value(0, "b.c"),
        origin(0, "a"), why(0, 0, "a"), after(0, "a"), after(0, b"\xff"), printed(0), printed(1), count(0), same(), drop(0, 0),
        kind(0, "a"), printed(0), count(0), same(),
    ])

    def test_what_is_handed_in_is_not_changed(self):
        given = list(self.CALLS)
        answers(given)
        self.assertEqual(given, self.CALLS)

    def test_what_is_handed_in_is_not_changed_for_a_while(self):
        self.assertEqual(answers(Guarded(self.CALLS)), answers(list(self.CALLS)))

    def test_nothing_is_kept(self):
        first = answers(self.CALLS)
        self.assertEqual(answers(load(0, 0, "a = 1") + load(1, 1, "b ! 2")), [2, 0, 0, 2, 0, 0])
        self.assertEqual(answers(kind(0, "a") + kind(1, "b")), [2, 0, 0, 2, 0, 0])
        self.assertEqual(answers(printed(0) + count(1) + same() + after(0, "")), [1, 0, 2, 0, 0, 2, 0, 1, 1, 0])
        self.assertEqual(answers(self.CALLS), first)

    def test_what_is_given_back_is_new(self):
        one = answers(self.CALLS)
        one.append(5)
        self.assertEqual(answers(self.CALLS), one[:-1])
        self.assertIsNot(answers([]), answers([]))


class LongTest(unittest.TestCase):
    def test_400_calls(self):
        calls = [load(0, 0, "a = 1")] + [kind(0, "a"), value(1, "a"), drop(1, 0)] * 133
        self.assertEqual(len(calls), 400)
        self.assertEqual(run(*calls), [[0, 0]] + [[0, 1], [-2], [0, 0]] * 133)

    def test_400_calls_of_one_number(self):
        self.assertEqual(answers([10] * 400), [2, 0, 1] * 400)

    def test_400_calls_of_every_sort(self):
        asked = [
            load(1, 1, "a = 1"), drop(0, 1), kind(0, "a"), value(0, "a"), origin(0, "a"), why(0, 0, "a"), after(0, ""),
            printed(0), count(0), same(),
        ]
        told = run(load(0, 0, "a = 1"), *(asked * 40)[1:])
        text = [0] + row("a = 1\n")
        expected = [[0, 0], [0, 0], [0, 1], [0, 1, 1], [0, 0, 1], [0, 1], [0, 97], text, [0, 1], [0, 1]]
        self.assertEqual(told[10:], expected * 39)

    def test_400_calls_that_print_full_layers(self):
        texts = [f"{name} = \"" + "\\x00" * 2045 + "\"" for name in "abc"]
        loads = [load(0, layer, text) for layer, text in enumerate(texts)]
        calls = loads + [printed(0)] * 397
        self.assertLess(sum(len(call) for call in calls), 30000)
        told = run(*calls)[3:]
        expected = [0] + row("".join(text + "\n" for text in texts))
        self.assertTrue(all(answer == expected for answer in told))
        self.assertEqual(len(told), 397)

    def test_400_calls_over_many_settings(self):
        texts = ["".join(f"a.b.c.{layer}{number:02d}=1\n" for number in range(64)) for layer in range(4)]
        loads = [load(k, layer, text) for k in (0, 1) for layer, text in enumerate(texts)]
        asked = [same(), count(0), after(1, "a.b.c.363"), why(0, 3, "a.b.c.363")] * 98
        self.assertEqual(len(loads + asked), 400)
        self.assertEqual(run(*loads, *asked)[8:], [[0, 1], [0, 256], [0], [0, 1]] * 98)

    def test_30000_numbers(self):
        text = "\n".join(f"{'s' * 20}.{'t' * 20}.n{number:02d} = \"{'x' * 19}\"" for number in range(64))
        full = [load(k, layer, text) for k in (0, 1) for layer in range(4)]
        self.assertLess(len(text), 8192)
        given = []
        for call in full * 10:
            if len(given) + len(call) <= 29000:
                given += call
        loads = len(apart(answers(given)))
        asked = value(0, "s" * 20 + "." + "t" * 20 + ".n63")
        while len(given) + len(asked) <= 30000:
            given += asked
        given += same() * (30000 - len(given))
        self.assertEqual(len(given), 30000)
        told = apart(answers(given))
        self.assertLessEqual(len(told), 400)
        self.assertEqual(told[:loads], [[0, 0]] * loads)
        self.assertEqual(told[loads], [0, 3] + [120] * 19)

    def test_three_texts_of_8300_numbers(self):
        given = ([1, 0, 0, 8300] + [97] * 8300) * 3
        self.assertEqual(answers(given), [1, -5] * 3)

    def test_long_lines(self):
        for sign in "a.[]\"\\=~!#- 0":
            told = run(load(0, 0, sign * 8192))[0]
            self.assertEqual(told, [0, 0] if sign in "# " else [-2, 1], sign)

    def test_questions_between_changes(self):
        path = ".".join(["name"] * 7)
        text = "\n".join(f"{path}.n{number} = {number}" for number in range(60))
        loads = [load(0, layer, text) for layer in range(4)]
        asked = [drop(0, 3), origin(0, path + ".n59")] * 198
        told = run(*loads, *asked)
        self.assertEqual(len(loads + asked), 400)
        self.assertEqual(told[4:], [[0, 0], [0, 2, 60]] * 198)

    def test_a_path_of_200_numbers(self):
        for asked in (3, 4, 5, 7):
            self.assertEqual(answers([asked, 0] + counted("n" * 200)), [1, -1])
        self.assertEqual(answers([6, 0, 0] + counted("n" * 200)), [1, -1])
