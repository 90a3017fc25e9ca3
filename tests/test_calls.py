"""The interface: several calls in one list, nothing changed, nothing kept."""

import unittest

from lightrhythms.lights import answers
from tests.told import AT, CHARACTER, FORM, JUDGE, NEXT, PERIOD, SAME, SHIFT, ask, call

CALLS = (
    (JUDGE, "W5 -3"), (FORM, "W5 -3"), (SAME, "W5 -3", "-3 W5"), (SHIFT, "W5 -3", "-3 W5"),
    (JUDGE, ""), (FORM, "W5 x"), (JUDGE, "W" * 1025), (SAME, "", "W" * 2000), (SHIFT, "W1", "W2 "),
    (SHIFT, "W1", "R1"), (SAME, "W1", "R1"), (FORM, "W600 W600 R600"), (JUDGE, "W5 -3"),
    (AT, 5, "W5 -3"), (NEXT, 5, "W5 -3"), (PERIOD, "W5 -3"), (CHARACTER, "W5 -3"),
    (AT, 1000001, "W5 -3"), (NEXT, 4294967295, "W5 -3"), (NEXT, 7, "W5"), (AT, 0, ""), (NEXT, 1000001, "W" * 1025),
    (PERIOD, "W5  -3"), (CHARACTER, "W5 -3 "), (PERIOD, "-5"), (CHARACTER, "-5"), (CHARACTER, "R5 -10 W5 -40"),
)


def one_behind_another(calls):
    return [number for asked in calls for number in call(*asked)]


class SeveralCalls(unittest.TestCase):
    def test_a_list_by_hand(self):
        calls = [0, 2, 87, 53, 1, 2, 87, 53, 2, 2, 87, 53, 2, 82, 53, 3, 2, 87, 53, 2, 82, 53, 0, 0, 0, 1, 87]
        self.assertEqual(answers(calls), [1, 1, 3, 2, 87, 49, 1, 0, 1, -3, 2, -6, 0, 2, -6, 0])

    def test_all_eight_kinds_by_hand(self):
        calls = [
            7, 5, 87, 53, 32, 45, 51, 6, 5, 87, 53, 32, 45, 51, 5, 7, 5, 87, 53, 32, 45, 51, 4, 8, 5, 87, 53, 32, 45, 51,
            3, 5, 87, 53, 32, 45, 51, 5, 45, 51, 32, 87, 53, 2, 5, 87, 53, 32, 45, 51, 5, 45, 51, 32, 87, 53,
            1, 5, 87, 53, 32, 45, 51, 0, 5, 87, 53, 32, 45, 51, 4, 1000001, 2, 87, 53, 5, 1000000, 2, 87, 53,
            4, 4294967295, 0, 5, 1000001, 1, 87,
        ]
        self.assertEqual(answers(calls), [
            10, 9, 79, 99, 32, 87, 32, 48, 46, 56, 115, 3, 8, 5, 1, 1, 8, 1, 1,
            1, 5, 1, 1,
            6, 5, 45, 51, 32, 87, 53, 1, 2, 1, -1, 1, -3,
            2, -6, 0, 2, -6, 0,
        ])

    def test_kinds_of_what_is_given_back(self):
        given = answers(one_behind_another(CALLS))
        self.assertIs(type(given), list)
        self.assertEqual({type(number) for number in given}, {int})

    def test_each_by_itself(self):
        for calls in (CALLS, CALLS[::-1]):
            wanted = []
            for asked in calls:
                told = ask(*asked)
                wanted += [len(told)] + told
            self.assertEqual(answers(one_behind_another(calls)), wanted)

    def test_handed_in_twice_and_unchanged(self):
        calls = one_behind_another(CALLS)
        kept = list(calls)
        first = answers(calls)
        self.assertEqual(calls, kept)
        first_kept = list(first)
        first.clear()
        self.assertEqual(answers(calls), first_kept)
        self.assertEqual(calls, kept)

    def test_never_changed_for_a_while_either(self):
        class Still(list):
            def refuse(self, *given, **named):
                raise AssertionError("the list that was handed in is changed")

            append = extend = insert = pop = remove = clear = sort = reverse = refuse
            __setitem__ = __delitem__ = __iadd__ = __imul__ = refuse

        calls = one_behind_another(CALLS)
        self.assertEqual(answers(Still(calls)), answers(calls))

    def test_four_hundred_calls(self):
        calls = [(JUDGE, "W5"), (FORM, "W5"), (SAME, "W5", "W"), (JUDGE, "")] * 100
        self.assertEqual(answers(one_behind_another(calls)), [1, 1, 3, 2, 87, 49, 2, -6, 0, 2, -6, 0] * 100)

    def test_four_hundred_calls_with_times_and_names(self):
        calls = [(AT, 1, "R2 Y1"), (NEXT, 1, "R2 Y1"), (PERIOD, "W5"), (CHARACTER, "W5")] * 100
        self.assertEqual(answers(one_behind_another(calls)), [1, 2, 1, 2, 3, 0, 1, 1, 4, 3, 70, 32, 87] * 100)

    def test_as_long_as_lists_get(self):
        calls = [(JUDGE, "x" * 2000), (SAME, " ".join(["W1"] * 32), "W1 " * 341 + "W")] * 9
        self.assertEqual(answers(one_behind_another(calls)), [1, -2, 2, -6, 32] * 9)


if __name__ == "__main__":
    unittest.main()
