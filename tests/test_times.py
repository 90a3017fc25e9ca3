"""Promise 3: no time less than the period brings all colours again; the colour at a time, and when it changes."""

import itertools
import unittest

from lightrhythms.lights import answers
from tests.told import (
    AT, LETTERS, NEXT, PERIOD, ask, call, colours, form_text, plain_period, small_rhythms, told_otherwise,
)

LATEST = 1000000
TOO_LATE = (1000001, 1000002, 2 ** 31, 4294967295)
# One phase of 600 told ten times over: as long as a rhythm may be.
LONG = ["W600"] * 9 + ["W599"]


def many(number, text, times):
    """What at or next answers at each of these times, asked for in few lists."""
    told = []
    times = list(times)
    for begin in range(0, len(times), 200):
        asked = [call(number, time, text) for time in times[begin:begin + 200]]
        given = answers(list(itertools.chain(*asked)))
        if given[0::2] != [1] * len(asked):
            raise AssertionError(f"not one number each: {given}")
        told += given[1::2]
    return told


def plain_next(text, time):
    """The first time behind this one that has another colour, by trying each; -3 if there's none."""
    tenths = colours(text)
    for later in range(time + 1, time + len(tenths) + 1):
        if tenths[later % len(tenths)] != tenths[time % len(tenths)]:
            return later
    return -3


class At(unittest.TestCase):
    def at(self, text, wanted):
        for time, colour in wanted.items():
            self.assertEqual(ask(AT, time, text), [colour], (time, text))

    def test_each_colour(self):
        for number, letter in enumerate("-WRGY"):
            self.at(f"{letter}1", {0: number, 1: number, 599: number, LATEST: number})

    def test_first_and_last_tenths_of_phases(self):
        self.at("W5 -3 R2 G1 Y600", {0: 1, 4: 1, 5: 0, 7: 0, 8: 2, 9: 2, 10: 3, 11: 4, 610: 4, 611: 1})

    def test_round_the_end(self):
        self.at("W5 -3", {7: 0, 8: 1, 12: 1, 13: 0, 15: 0, 16: 1})
        self.at("W2 -3 W3", {0: 1, 1: 1, 2: 0, 4: 0, 5: 1, 7: 1, 8: 1, 9: 1, 10: 0})

    def test_many_rounds_later(self):
        self.at("W5 -3", {80000: 1, 80004: 1, 80005: 0, 80007: 0, 80008: 1})
        self.at("W1 R1 G1", {299999: 3, 300000: 1, 300001: 2, 300002: 3, 300003: 1})

    def test_the_latest_time(self):
        self.at("W5 -3", {999999: 0, LATEST: 1})
        self.at("-3 W5", {LATEST: 0})
        self.at("G600 Y599", {LATEST: 3, LATEST - 34: 3, LATEST - 35: 4})
        self.at("R1 W1", {LATEST: 2, LATEST - 1: 1})

    def test_too_late(self):
        for time in TOO_LATE:
            for text in ("W5", "-5", "W5 -3", "R600 " + " ".join(["G1", "Y1"] * 15)):
                self.assertEqual(ask(AT, time, text), [-1], (time, text))

    def test_a_fault_comes_first(self):
        for time in (0, LATEST) + TOO_LATE:
            self.assertEqual(ask(AT, time, "W5 x"), [-6, 1])
            self.assertEqual(ask(AT, time, ""), [-6, 0])
            self.assertEqual(ask(AT, time, "W" * 1025), [-2])

    def test_the_longest_rhythm(self):
        self.at(" ".join(LONG + ["-1"]), {0: 1, 599: 1, 600: 1, 5998: 1, 5999: 0, 6000: 1, 11999: 0, 12000: 1})

    def test_every_tenth_by_trial(self):
        texts = list(small_rhythms("-WRGY", 2, 2)) + ["W7 -3 R600 G1 Y2 -1 W1", "W5 W5 -3 -3"]
        for text in texts:
            tenths = colours(text)
            times = range(2 * len(tenths) + 3)
            wanted = [LETTERS.index(tenths[time % len(tenths)]) for time in times]
            self.assertEqual(many(AT, text, times), wanted, text)


class Next(unittest.TestCase):
    def changes(self, text, wanted):
        for time, change in wanted.items():
            self.assertEqual(ask(NEXT, time, text), [change], (time, text))

    def test_from_within_a_phase(self):
        self.changes("W5 -3", {0: 5, 1: 5, 4: 5, 5: 8, 6: 8, 7: 8, 8: 13, 12: 13, 13: 16})
        self.changes("W1 -1", {0: 1, 1: 2, 2: 3})
        self.changes("W5 R3", {0: 5, 4: 5, 5: 8, 7: 8, 8: 13})

    def test_first_and_last_phase_of_one_colour(self):
        self.changes("W2 -3 W3", {0: 2, 1: 2, 2: 5, 4: 5, 5: 10, 7: 10, 8: 10, 9: 10, 10: 13})
        self.changes("-1 W1 R1 -1", {0: 1, 1: 2, 2: 3, 3: 5, 4: 5, 5: 6})

    def test_neighbours_of_one_colour(self):
        self.changes("W2 W3 -1 -1 -1", {0: 5, 1: 5, 2: 5, 4: 5, 5: 8, 6: 8, 7: 8, 8: 13})
        self.changes("W2 W2 -1 W1 W1", {0: 4, 2: 4, 3: 4, 4: 5, 5: 11, 6: 11, 7: 11, 8: 11, 10: 11, 11: 12})

    def test_many_rounds_later(self):
        self.changes("W5 -3", {80000: 80005, 80004: 80005, 80005: 80008, 80007: 80008})
        self.changes("W2 -3 W3", {800005: 800010, 800009: 800010})

    def test_the_latest_time(self):
        self.changes("W5 -3", {999999: 1000000, LATEST: 1000005})
        self.changes("-3 W5", {LATEST: 1000003})
        self.changes("W1 -1", {LATEST: 1000001})
        self.changes(" ".join(LONG + ["-1"]), {LATEST: 1001999})

    def test_the_longest_wait(self):
        self.changes(" ".join(LONG + ["-1"]), {0: 5999, 5998: 5999, 5999: 6000, 6000: 11999})
        self.changes(" ".join(LONG[:5] + ["R1"] + LONG[5:]), {0: 3000, 3000: 3001, 3001: 9000, 5999: 9000, 6000: 9000})

    def test_never_changing(self):
        for letter in "-WRGY":
            for text in (f"{letter}1", f"{letter}600", f"{letter}5 {letter}7 {letter}5", " ".join([f"{letter}600"] * 10)):
                for time in (0, 1, 5, 600, LATEST):
                    self.assertEqual(ask(NEXT, time, text), [-3], (time, text))

    def test_too_late(self):
        for time in TOO_LATE:
            for text in ("W5 -3", "W5", "-5 -5", "W2 -3 W3"):
                self.assertEqual(ask(NEXT, time, text), [-1], (time, text))

    def test_a_fault_comes_first(self):
        for time in (0, LATEST) + TOO_LATE:
            self.assertEqual(ask(NEXT, time, "W5 W0"), [-6, 1])
            self.assertEqual(ask(NEXT, time, ""), [-6, 0])
            self.assertEqual(ask(NEXT, time, "W" * 2000), [-2])

    def test_every_tenth_by_trial(self):
        texts = list(small_rhythms("-W", 4, 2)) + list(small_rhythms("-RY", 3, 2)) + ["W7 -3 R60 G1 Y2 -1 W1"]
        for text in texts:
            times = range(2 * len(colours(text)) + 3)
            self.assertEqual(many(NEXT, text, times), [plain_next(text, time) for time in times], text)


class Period(unittest.TestCase):
    def period(self, text, *wanted):
        self.assertEqual(ask(PERIOD, text), list(wanted), text)

    def test_told_once(self):
        self.period("W5 -3", 8, 5, 1)
        self.period("W1 -1 W2 -2", 6, 3, 2)
        self.period("-600 R1", 601, 1, 1)
        self.period("W1 R2 G3 Y4 -5", 15, 10, 4)

    def test_never_dark(self):
        self.period("W5 R3", 8, 8, 2)
        self.period("W1 R1 G1 Y1", 4, 4, 4)

    def test_told_over(self):
        self.period("W5 -3 W5 -3", 8, 5, 1)
        self.period(" ".join(["W5 -3"] * 16), 8, 5, 1)
        self.period("W1 -1 W2 -2 W1 -1 W2 -2", 6, 3, 2)
        self.period("W5 -3 R5 -3 W5 -3 R5 -3", 16, 10, 2)

    def test_told_over_but_for_one(self):
        self.period("W5 -3 W5 -4", 17, 10, 2)
        self.period("W5 -3 R5 -3", 16, 10, 2)
        self.period("W5 -3 W5 -3 W5", 21, 15, 2)

    def test_begun_elsewhere(self):
        for text in ("-3 W5", "W2 -3 W3", "-1 W5 -2", "W2 -3 W5 -3 W3"):
            self.period(text, 8, 5, 1)

    def test_phases_parted(self):
        self.period("W2 W3 -3", 8, 5, 1)
        self.period("W1 W1 W1 W1 W1 -1 -2", 8, 5, 1)
        self.period("W2 W3 -3 W5 -1 -2", 8, 5, 1)
        self.period("W2 -2 W1 W1 -2", 4, 2, 1)

    def test_lit_neighbours_of_different_colours_are_counted_each(self):
        self.period("W5 R5 -10", 20, 10, 2)
        self.period("W5 R5 W5 -10", 25, 15, 3)

    def test_never_changing(self):
        for letter in "WRGY":
            for text in (f"{letter}1", f"{letter}600", f"{letter}5 {letter}7", " ".join([f"{letter}600"] * 10)):
                self.period(text, 0, 1, 1)
        for text in ("-1", "-600", "-5 -7", " ".join(["-600"] * 10)):
            self.period(text, 0, 0, 0)

    def test_the_longest(self):
        self.period(" ".join(LONG + ["-1"]), 6000, 5999, 1)
        self.period(" ".join(["-600"] * 9 + ["-599", "G1"]), 6000, 1, 1)
        self.period(" ".join(["W600"] * 5 + ["-600"] * 5), 6000, 3000, 1)
        self.period(" ".join(["W300", "-300"] * 10), 600, 300, 1)
        self.period(" ".join(["W187", "-188"] * 16), 375, 187, 1)
        self.period(" ".join(["W187", "-188"] * 15 + ["W188", "-187"]), 6000, 187 * 15 + 188, 16)

    def test_no_less_time_brings_all_colours_again(self):
        texts = list(small_rhythms("-W", 4, 2)) + list(small_rhythms("-RG", 4, 1)) + ["W2 -1 R2 -1 W2 -1", "Y9 -9 Y9 -9"]
        for text in texts:
            period = ask(PERIOD, text)[0]
            span = len(colours(text))
            told = many(AT, text, range(3 * span))
            again = [time for time in range(1, span + 1) if told[time:time + span] == told[:span]]
            self.assertEqual(period, 0 if len(set(told)) == 1 else again[0], text)

    def test_small_rhythms_by_trial(self):
        for text in itertools.chain(small_rhythms("-WR", 4, 2), small_rhythms("-W", 6, 1), small_rhythms("-GY", 3, 3)):
            tenths = colours(text)
            period = plain_period(tenths)
            form = form_text(text).split(" ")
            lit = sum(tenth != "-" for tenth in tenths[:max(period, 1)])
            self.period(text, period, lit, sum(word[0] != "-" for word in form))

    def test_one_light_has_one_period(self):
        for text in ("-3 W5", "-1 W2 -3 W2", "R1 G2 R1 G3", "W4 R1 Y2"):
            for other in told_otherwise(text):
                self.assertEqual(ask(PERIOD, other), ask(PERIOD, text), other)


if __name__ == "__main__":
    unittest.main()
