"""The interface: several calls in one list, nothing changed, nothing kept."""

import unittest

from lightrhythms.lights import answers
from tests.told import FORM, JUDGE, SAME, SHIFT, ask, call

CALLS = (
    (JUDGE, "W5 -3"), (FORM, "W5 -3"), (SAME, "W5 -3", "-3 W5"), (SHIFT, "W5 -3", "-3 W5"),
    (JUDGE, ""), (FORM, "W5 x"), (JUDGE, "W" * 1025), (SAME, "", "W" * 2000), (SHIFT, "W1", "W2 "),
    (SHIFT, "W1", "R1"), (SAME, "W1", "R1"), (FORM, "W600 W600 R600"), (JUDGE, "W5 -3"),
)


def one_behind_another(calls):
    return [number for asked in calls for number in call(*asked)]


class SeveralCalls(unittest.TestCase):
    def test_a_list_by_hand(self):
        calls = [0, 2, 87, 53, 1, 2, 87, 53, 2, 2, 87, 53, 2, 82, 53, 3, 2, 87, 53, 2, 82, 53, 0, 0, 0, 1, 87]
        self.assertEqual(answers(calls), [1, 1, 3, 2, 87, 49, 1, 0, 1, -3, 2, -6, 0, 2, -6, 0])

    def test_kinds_of_what_is_given_back(self):
        given = answers(one_behind_another(CALLS))
        self.assertIs(type(given), list)
        self.assertEqual({type(number) for number in given}, {int})

    def test_each_by_itself(self):
        for calls in (CALLS, CALLS[::-1]):
            wanted = []
            for asked in calls:
                told = ask(*asked)
                wanted += [len(told)] + told
            self.assertEqual(answers(one_behind_another(calls)), wanted)

    def test_handed_in_twice_and_unchanged(self):
        calls = one_behind_another(CALLS)
        kept = list(calls)
        first = answers(calls)
        self.assertEqual(calls, kept)
        first_kept = list(first)
        first.clear()
        self.assertEqual(answers(calls), first_kept)
        self.assertEqual(calls, kept)

    def test_never_changed_for_a_while_either(self):
        class Still(list):
            def refuse(self, *given, **named):
                raise AssertionError("the list that was handed in is changed")

            append = extend = insert = pop = remove = clear = sort = reverse = refuse
            __setitem__ = __delitem__ = __iadd__ = __imul__ = refuse

        calls = one_behind_another(CALLS)
        self.assertEqual(answers(Still(calls)), answers(calls))

    def test_four_hundred_calls(self):
        calls = [(JUDGE, "W5"), (FORM, "W5"), (SAME, "W5", "W"), (JUDGE, "")] * 100
        self.assertEqual(answers(one_behind_another(calls)), [1, 1, 3, 2, 87, 49, 2, -6, 0, 2, -6, 0] * 100)

    def test_as_long_as_lists_get(self):
        calls = [(JUDGE, "x" * 2000), (SAME, " ".join(["W1"] * 32), "W1 " * 341 + "W")] * 9
        self.assertEqual(answers(one_behind_another(calls)), [1, -2, 2, -6, 32] * 9)


if __name__ == "__main__":
    unittest.main()
