"""Promise 2: two rhythms are one light just if they have one form; the form is the light itself."""

import itertools
import unittest

from tests.told import (
    FORM, SAME, SHIFT, ask, colours, form_text, plain_form, plain_shift, small_rhythms, told_otherwise,
)


class Forms(unittest.TestCase):
    def form(self, text, wanted):
        self.assertEqual(form_text(text), wanted, text)

    def test_numbers_answered(self):
        self.assertEqual(ask(FORM, "W5 -3"), [5, 45, 51, 32, 87, 53])
        self.assertEqual(ask(FORM, "Y600"), [2, 89, 49])

    def test_begun_elsewhere(self):
        for text in ("-3 W5", "W5 -3", "W2 -3 W3", "-1 W5 -2", "-2 W5 -1"):
            self.form(text, "-3 W5")

    def test_told_over(self):
        self.form("W5 -3 W5 -3", "-3 W5")
        self.form(" ".join(["W5 -3"] * 16), "-3 W5")
        self.form("W2 -3 W5 -3 W5 -3 W3", "-3 W5")
        self.form("-1 W1 -2 W1 -1 W1 -2 W1", "-1 W1 -2 W1")

    def test_told_over_but_for_one(self):
        self.form("W5 -3 W5 -4", "-3 W5 -4 W5")
        self.form("W5 -3 R5 -3", "-3 W5 -3 R5")
        self.form("W1 -1 W1 -1 W2 -1", "-1 W1 -1 W1 -1 W2")

    def test_a_phase_told_as_two(self):
        self.form("W2 W3 -3", "-3 W5")
        self.form("W5 -1 -1 -1", "-3 W5")
        self.form("W2 W3 -3 W5 -1 -2", "-3 W5")
        self.form("-1 W4 W1 -1 -1", "-3 W5")

    def test_joined_neighbours_make_a_shorter_period(self):
        self.form("W2 -2 W1 W1 -2", "-2 W2")
        self.form("W1 -2 W2 -2 W1", "-2 W2")

    def test_never_changing(self):
        for letter in "-WRGY":
            for text in (f"{letter}1", f"{letter}600", f"{letter}5 {letter}7", " ".join([f"{letter}600"] * 10)):
                self.form(text, f"{letter}1")

    def test_longer_than_600(self):
        self.form("W600 W600 R600", "W1200 R600")
        self.form("W600 R600 W600", "W1200 R600")
        self.form("-1 " + " ".join(["W600"] * 9 + ["W599"]), "-1 W5999")
        self.form(" ".join(["-300"] + ["W1"] + ["-600"] * 9 + ["-299"]), "-5999 W1")
        self.form("W600 W1 R600 R1", "W601 R601")

    def test_order_of_colours(self):
        self.form("Y1 G1 R1 W1 -1", "-1 Y1 G1 R1 W1")
        self.form("Y1 G1 R1 W9", "W9 Y1 G1 R1")
        self.form("Y1 G2 R9", "R9 Y1 G2")
        self.form("Y1 G9", "G9 Y1")
        self.form("G1 R600", "R600 G1")

    def test_colour_comes_before_length(self):
        self.form("W1 -600", "-600 W1")
        self.form("-2 R1 -2 W9", "-2 W9 -2 R1")

    def test_the_shorter_comes_first(self):
        self.form("-9 W1 -10 W1", "-9 W1 -10 W1")
        self.form("-10 W1 -9 W1", "-9 W1 -10 W1")
        self.form("-2 W2 -2 W1", "-2 W1 -2 W2")
        self.form("-100 W1 -20 W1 -3 W1", "-3 W1 -100 W1 -20 W1")

    def test_decided_late(self):
        self.form("-1 W1 -1 W2 -1 W1 -1 W1", "-1 W1 -1 W1 -1 W1 -1 W2")
        self.form("-1 W1 -1 R1 -1 W1 -1 W2 -1 W1", "-1 W1 -1 W1 -1 R1 -1 W1 -1 W2")

    def test_thirty_two_phases(self):
        words = [f"{'W' if k % 2 else '-'}{k + 1}" for k in range(32)]
        for begin in range(32):
            self.form(" ".join(words[begin:] + words[:begin]), " ".join(words))

    def test_small_rhythms_by_trial(self):
        for text in itertools.chain(small_rhythms("-WR", 4, 2), small_rhythms("-W", 4, 3), small_rhythms("-W", 6, 1)):
            self.form(text, plain_form(text))


class FormIsTheLight(unittest.TestCase):
    def test_the_form_has_the_rhythms_own_colours(self):
        for text in small_rhythms("WGY", 3, 3):
            self.assertNotEqual(plain_shift(form_text(text), text), -3, text)
            self.assertNotEqual(plain_shift(text, form_text(text)), -3, text)

    def test_shift_tells_when_the_form_begins(self):
        for text in ("W5 -3", "-1 W5 -2", "W2 -3 W5 -3 W3", "R590 W1 R10", "Y1 G2 R9 W4 -7 Y3"):
            begins = ask(SHIFT, text, form_text(text))[0]
            tenths, form = colours(text), colours(form_text(text))
            for time in range(2 * len(tenths)):
                self.assertEqual(tenths[(time + begins) % len(tenths)], form[time % len(form)], (text, time))

    def test_a_long_form_has_the_rhythms_own_colours(self):
        for text in ("R600 W1 R7", "-600 -600 W600 -600", "W600 W600 R600 W1 W600 W599 R600"):
            self.assertNotEqual(plain_shift(text, form_text(text)), -3, text)
            # A form with a phase above 600 is written all the same, but is no rhythm's text.
            self.assertEqual(ask(SHIFT, text, form_text(text))[0], -6, text)

    def test_a_form_is_its_own_form(self):
        for text in small_rhythms("-RY", 3, 2):
            self.assertEqual(form_text(form_text(text)), form_text(text))

    def test_all_ways_to_tell_a_light_have_one_form(self):
        for text in ("-3 W5", "-1 W2 -3 W2", "R1 G2 R1 G3", "-2 W1 -2 R1 -2 W2", "W4 R1 Y2"):
            for other in told_otherwise(text):
                self.assertEqual(form_text(other), form_text(text), other)
                self.assertEqual(ask(SAME, text, other), [1], other)
                self.assertEqual(ask(SHIFT, text, other), [plain_shift(text, other)], other)
                self.assertEqual(ask(SHIFT, other, text), [plain_shift(other, text)], other)


class SameAndShift(unittest.TestCase):
    def one_light(self, one, other, shift):
        self.assertEqual(ask(SAME, one, other), [1], (one, other))
        self.assertEqual(ask(SHIFT, one, other), [shift], (one, other))

    def two_lights(self, one, other):
        for texts in ((one, other), (other, one)):
            self.assertEqual(ask(SAME, *texts), [0], texts)
            self.assertEqual(ask(SHIFT, *texts), [-3], texts)

    def test_shift_of_nought(self):
        self.one_light("W5 -3", "W5 -3", 0)
        self.one_light("W5 -3", "W2 W3 -3 W5 -3", 0)
        self.one_light("W2 -3 W3", "W1 W1 -3 W3", 0)

    def test_the_second_is_the_first_so_much_later(self):
        self.one_light("W5 -3", "-3 W5", 5)
        self.one_light("-3 W5", "W5 -3", 3)
        self.one_light("W5 -3", "W2 -3 W3", 3)
        self.one_light("W2 -3 W3", "W5 -3", 5)
        self.one_light("W5 -3 W2", "W7 -3", 8)
        self.one_light("-1 W1 R1", "R1 -1 W1", 2)

    def test_the_least_time(self):
        self.one_light("W5 -3 W5 -3 W5 -3", "-3 W5", 5)
        self.one_light("-3 W5", "W5 -3 W5 -3", 3)
        self.one_light("W1 -3 W5 -3 W4", "W4 -3 W1", 5)
        self.one_light("W4 -3 W1", "W1 -3 W5 -3 W4", 3)

    def test_never_changing(self):
        self.one_light("W5", "W5", 0)
        self.one_light("W5", "W3 W4", 0)
        self.one_light("-600 -600", "-1", 0)
        self.two_lights("W5", "R5")
        self.two_lights("W5", "-5")
        self.two_lights("W1", "W1 -1")

    def test_long_phases(self):
        self.one_light("W600 W600 R600", "W1 R600 W599 W600", 1199)
        self.one_light("-1 " + " ".join(["W600"] * 9 + ["W599"]), " ".join(["W600"] * 9 + ["W599"]) + " -1", 1)
        self.one_light(" ".join(["W600"] * 9 + ["W599"]) + " -1", "-1 " + " ".join(["W600"] * 9 + ["W599"]), 5999)

    def test_not_one_light(self):
        self.two_lights("W5 -3", "W3 -5")
        self.two_lights("W5 -3", "R5 -3")
        self.two_lights("W5 -3", "W10 -6")
        self.two_lights("W5 -3", "W5 -3 W5 -4")
        self.two_lights("W1 R1 G1", "W1 G1 R1")
        self.two_lights("W1 -1 W2 -2 W3 -3", "W3 -1 W2 -2 W1 -3")
        self.two_lights("W5 -3", "W5 -3 R5 -3")

    def test_small_rhythms_by_trial(self):
        texts = list(small_rhythms("-W", 3, 2)) + list(small_rhythms("-RG", 3, 1))
        for one in texts:
            for other in texts:
                shift = plain_shift(one, other)
                self.assertEqual(ask(SHIFT, one, other), [shift], (one, other))
                self.assertEqual(ask(SAME, one, other), [0 if shift == -3 else 1], (one, other))
                self.assertEqual(form_text(one) == form_text(other), shift != -3, (one, other))


if __name__ == "__main__":
    unittest.main()
