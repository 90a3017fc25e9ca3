"""Promise 4: one light has one name, whatever its text begins with. The groups in a name are all its flashes."""

import itertools
import random
import re
import unittest

from tests.told import (
    CHARACTER, MORSE, PERIOD, ask, colours, name, plain_period, runs_of, small_rhythms, told_otherwise,
)


def flashes(darks, light=5, colour="W"):
    """A rhythm's text: before each of these darks a light so long."""
    return " ".join(f"{colour}{light} -{dark}" for dark in darks)


def eclipses(lights, dark=5, colour="W"):
    """A rhythm's text: behind each of these lights a dark so long."""
    return " ".join(f"{colour}{light} -{dark}" for light in lights)


def morse(signs, short, gap, colour="W"):
    """A rhythm's text: the lights of a letter's signs, and the dark behind them."""
    lights = [f"{colour}{short if sign == '.' else 3 * short}" for sign in signs]
    return f" -{short} ".join(lights) + f" -{gap}"


def turned(text, places):
    words = text.split(" ")
    return " ".join(words[places:] + words[:places])


def plain_flash(light, every):
    bounds = ((3, "UQ"), (7, "VQ"), (12, "Q"))
    return "LFl" if light >= 20 else next((told for bound, told in bounds if every <= bound), "Fl")


def plain_groups(lengths):
    """The groups' text, by trying every beginning that is behind a longer one."""
    told = []
    for begin in range(len(lengths)):
        round_ = lengths[begin:] + lengths[:begin]
        if round_[-1] == max(lengths):
            marks = "".join("|" if length == max(lengths) else "." for length in round_)
            told.append([len(group) for group in re.findall(r"\.*\|", marks)])
    return "(" + "+".join(map(str, max(told))) + ")"


def plain_letter(shades, short):
    """The letter whose tenths, with a dark behind them, are these when begun elsewhere."""
    for letter, signs in MORSE.items():
        lit = ("-" * short).join("L" * (short if sign == "." else 3 * short) for sign in signs)
        gap = len(shades) - len(lit)
        if gap >= 3 * short and lit + "-" * gap in shades + shades:
            return letter
    return None


def plain_kind(shades):
    if "-" not in shades:
        return "F"
    shades = shades[:plain_period(shades)]
    begin = next(k for k in range(len(shades)) if shades[k] == "L" and shades[k - 1] == "-")
    runs = runs_of(shades[begin:] + shades[:begin])
    lights, darks = [int(run[1:]) for run in runs[0::2]], [int(run[1:]) for run in runs[1::2]]
    if len(lights) == 1:
        light, dark = lights[0], darks[0]
        return "Iso" if light == dark else "Oc" if light > dark else plain_flash(light, light + dark)
    if len(set(lights)) == 1 and len(set(darks)) == 2:
        return plain_flash(lights[0], lights[0] + min(darks)) + plain_groups(darks)
    if len(set(darks)) == 1 and len(set(lights)) == 2 and 2 * sum(lights) >= len(shades):
        return "Oc" + plain_groups(lights)
    letter = plain_letter(shades, min(lights))
    return f"Mo({letter})" if letter else "Ir"


def plain_name(text):
    """The name, by going through the rhythm tenth by tenth."""
    tenths = colours(text)
    letters = "".join(letter for letter in "WRGY" if letter in tenths)
    if not letters:
        return "dark"
    kind = plain_kind(re.sub("[WRGY]", "L", tenths))
    if len(letters) > 1:
        kind = "Al" if kind == "F" else "Al " + kind
    period = plain_period(tenths)
    seconds = f" {period / 10:g}s" if period else ""
    return f"{kind} {letters}{seconds}"


class Names(unittest.TestCase):
    def called(self, text, wanted):
        self.assertEqual(name(text), wanted, text)

    def kind(self, text, wanted):
        self.assertEqual(name(text).split(" ")[0], wanted, text)


class NeverDarkOrNeverLit(Names):
    def test_numbers_answered(self):
        self.assertEqual(ask(CHARACTER, "-5"), [4, 100, 97, 114, 107])
        self.assertEqual(ask(CHARACTER, "W5"), [3, 70, 32, 87])
        self.assertEqual(ask(CHARACTER, "W5 -10 W5 -40"), [10, 70, 108, 40, 50, 41, 32, 87, 32, 54, 115])

    def test_dark(self):
        for text in ("-1", "-600", "-5 -7", " ".join(["-600"] * 10)):
            self.called(text, "dark")

    def test_fixed(self):
        for letter in "WRGY":
            for text in (f"{letter}1", f"{letter}600", f"{letter}5 {letter}7", " ".join([f"{letter}600"] * 10)):
                self.called(text, f"F {letter}")

    def test_alternating_alone(self):
        self.called("W5 R5", "Al WR 1s")
        self.called("R5 W4", "Al WR 0.9s")
        self.called("Y10 G10 R10 W10", "Al WRGY 4s")
        self.called("G1 W1 G1 W1", "Al WG 0.2s")
        self.called("W100 R1 W100", "Al WR 20.1s")


class OneLightOneDark(Names):
    def test_isophase(self):
        for length in (1, 2, 3, 10, 19, 20, 21, 600):
            self.kind(f"W{length} -{length}", "Iso")
        self.called("-20 R20", "Iso R 4s")

    def test_occulting(self):
        for light, dark in ((2, 1), (4, 3), (20, 19), (21, 20), (30, 10), (600, 1), (600, 599)):
            self.kind(f"W{light} -{dark}", "Oc")
        self.called("-10 G30", "Oc G 4s")

    def test_just_a_flash(self):
        for light, dark, wanted in ((5, 6, "Q"), (1, 2, "UQ"), (19, 20, "Fl"), (20, 21, "LFl")):
            self.kind(f"W{light} -{dark}", wanted)

    def test_long_flashes(self):
        for light, wanted in ((1, "Fl"), (18, "Fl"), (19, "Fl"), (20, "LFl"), (21, "LFl"), (100, "LFl"), (299, "LFl")):
            self.kind(f"W{light} -300", wanted)

    def test_flashes_at_each_bound(self):
        every = {3: "UQ", 4: "VQ", 5: "VQ", 6: "VQ", 7: "VQ", 8: "Q", 9: "Q", 11: "Q", 12: "Q", 13: "Fl", 14: "Fl", 601: "Fl"}
        for period, wanted in every.items():
            self.kind(f"W1 -{period - 1}", wanted)
        for light, dark, wanted in ((3, 4, "VQ"), (3, 5, "Q"), (5, 7, "Q"), (5, 8, "Fl"), (6, 7, "Fl")):
            self.kind(f"R{light} -{dark}", wanted)

    def test_whole_names(self):
        self.called("W1 -2", "UQ W 0.3s")
        self.called("R2 -3", "VQ R 0.5s")
        self.called("G3 -7", "Q G 1s")
        self.called("Y5 -45", "Fl Y 5s")
        self.called("W20 -80", "LFl W 10s")

    def test_the_longest(self):
        self.called(" ".join(["W1"] + ["-600"] * 9 + ["-599"]), "Fl W 600s")
        self.called(" ".join(["-1"] + ["Y600"] * 9 + ["Y599"]), "Oc Y 600s")
        self.called(" ".join(["R600"] * 5 + ["-600"] * 5), "Iso R 600s")


class Periods(Names):
    def test_whole_seconds_and_tenths(self):
        for dark, wanted in ((8, "0.9s"), (9, "1s"), (10, "1.1s"), (59, "6s"), (74, "7.5s"), (99, "10s"), (100, "10.1s")):
            self.assertEqual(name(f"W1 -{dark}").split(" ")[2], wanted)
        self.called("W5 -70", "Fl W 7.5s")
        self.called("W5 -55", "Fl W 6s")
        self.called("W1 -600 -399", "Fl W 100s")
        self.called("W1 -600 -400", "Fl W 100.1s")

    def test_never_more_than_once_round(self):
        self.called("W5 -55 W5 -55", "Fl W 6s")
        self.called(" ".join(["W5 -55"] * 16), "Fl W 6s")


class GroupsOfDarks(Names):
    def test_one_group(self):
        self.called("W5 -5 W5 -45", "Q(2) W 6s")
        self.called("W5 -10 W5 -40", "Fl(2) W 6s")
        self.called("R5 -10 R5 -10 R5 -65", "Fl(3) R 10s")
        self.called(flashes([10] * 15 + [60]), "Fl(16) W 29s")

    def test_one_group_begun_elsewhere(self):
        for places in range(6):
            self.called(turned("R5 -10 R5 -10 R5 -65", places), "Fl(3) R 10s")
        self.called("-30 R5 -10 R5 -10 R5 -35", "Fl(3) R 10s")

    def test_different_numbers(self):
        self.kind(flashes([10, 40, 40]), "Fl(2+1)")
        self.kind(flashes([40, 10, 40]), "Fl(2+1)")
        self.kind(flashes([40, 40, 10]), "Fl(2+1)")
        self.kind(flashes([40, 10, 10, 40, 10]), "Fl(3+2)")
        self.kind(flashes([10, 40, 40, 40, 40]), "Fl(2+1+1+1)")
        self.kind(flashes([40] + [10] * 11 + [40] + [10] * 3), "Fl(12+4)")

    def test_numbers_of_which_some_are_equal(self):
        self.kind(flashes([40, 10, 40, 10, 40]), "Fl(2+2+1)")
        self.kind(flashes([10, 40, 10, 40, 40]), "Fl(2+2+1)")
        self.kind(flashes([10, 40, 40, 10, 40, 40, 40]), "Fl(2+1+2+1+1)")
        self.kind(flashes([40, 40, 40, 10, 40, 10, 10, 40]), "Fl(3+1+1+1+2)")

    def test_begun_so_that_they_come_last_by_number_not_by_text(self):
        self.kind(flashes([10] * 9 + [40] + [10, 40]), "Fl(10+2)")
        self.kind(flashes([10, 40] + [10] * 9 + [40]), "Fl(10+2)")

    def test_equal_numbers_are_one_group(self):
        self.called(flashes([10, 40, 10, 40]), "Fl(2) W 6s")
        self.called(flashes([10, 10, 40] * 5), "Fl(3) W 7.5s")
        self.called(flashes([10, 40, 40] * 2), "Fl(2+1) W 10.5s")

    def test_a_flashes_name_at_each_bound(self):
        for light, dark, wanted in (
            (1, 1, "UQ"), (1, 2, "UQ"), (2, 1, "UQ"), (1, 3, "VQ"), (2, 2, "VQ"), (3, 4, "VQ"), (6, 1, "VQ"),
            (3, 5, "Q"), (7, 1, "Q"), (6, 6, "Q"), (11, 1, "Q"), (6, 7, "Fl"), (12, 1, "Fl"), (19, 1, "Fl"),
            (19, 300, "Fl"), (20, 1, "LFl"), (20, 300, "LFl"), (21, 5, "LFl"),
        ):
            for longer in (dark + 1, dark + 100):
                self.kind(flashes([dark, longer], light), f"{wanted}(2)")
                self.kind(flashes([longer, longer, dark], light), f"{wanted}(2+1)")

    def test_by_how_much_they_differ_is_all_one(self):
        self.called("W5 -10 W5 -11", "Fl(2) W 3.1s")
        self.called("W10 -1 W10 -2", "Q(2) W 2.3s")
        self.called("W1 -1 W1 -600", "UQ(2) W 60.3s")

    def test_darks_of_three_lengths(self):
        self.called("W5 -10 W5 -20 W5 -40", "Ir W 8.5s")
        self.called("W5 -10 W5 -11 W5 -12 W5 -10", "Ir W 6.3s")


class GroupsOfLights(Names):
    def test_one_group(self):
        self.called("W10 -5 W40 -5", "Oc(2) W 6s")
        self.called("R10 -5 R10 -5 R60 -5", "Oc(3) R 9.5s")
        self.called(eclipses([10] * 15 + [60]), "Oc(16) W 29s")

    def test_different_numbers(self):
        for lights in ([10, 40, 40], [40, 10, 40], [40, 40, 10]):
            self.kind(eclipses(lights), "Oc(2+1)")
        self.kind(eclipses([40, 10, 10, 40, 10]), "Oc(3+2)")
        self.kind(eclipses([10, 40] + [10] * 9 + [40]), "Oc(10+2)")

    def test_numbers_of_which_some_are_equal(self):
        for lights in ([40, 10, 40, 10, 40], [10, 40, 10, 40, 40], [10, 40, 40, 10, 40]):
            self.kind(eclipses(lights), "Oc(2+2+1)")
        self.kind(eclipses([40, 40, 40, 10, 40, 10, 10, 40]), "Oc(3+1+1+1+2)")

    def test_equal_numbers_are_one_group(self):
        self.called(eclipses([10, 40, 10, 40]), "Oc(2) W 6s")
        self.called(eclipses([10, 40, 40] * 4), "Oc(2+1) W 10.5s")

    def test_lights_together_against_darks_together(self):
        self.called("W4 -8 W13 -8", "Oc(2) W 3.3s")
        self.called("W4 -8 W12 -8", "Oc(2) W 3.2s")
        self.called("W4 -8 W11 -8", "Ir W 3.1s")
        self.called("W1 -5 W1 -5 W13 -5", "Oc(3) W 3s")
        self.called("W1 -5 W1 -5 W12 -5", "Ir W 2.9s")
        self.called("W1 -2 W3 -2", "Oc(2) W 0.8s")

    def test_lights_of_three_lengths(self):
        self.called("W10 -5 W20 -5 W40 -5", "Ir W 8.5s")

    def test_darks_and_lights_of_two_lengths(self):
        self.called("W10 -5 W40 -6", "Ir W 6.1s")


class Morse(Names):
    # One light and one dark, and lights that are all as long, are called otherwise ahead of Morse.
    OTHERWISE = {"E": "Fl", "T": "Fl", "I": "Q(2)", "M": "Fl(2)", "S": "Q(3)", "O": "Fl(3)", "H": "Q(4)"}

    def test_all_letters(self):
        self.assertEqual("".join(MORSE), "ABCDEFGHIJKLMNOPQRSTUVWXYZ")
        for letter, signs in MORSE.items():
            for gap in (45, 46, 600):
                self.kind(morse(signs, 5, gap), self.OTHERWISE.get(letter, f"Mo({letter})"))

    def test_all_letters_slow_and_fast(self):
        for letter in [letter for letter in MORSE if letter not in self.OTHERWISE]:
            for short in (1, 2, 7, 19, 20, 100):
                self.kind(morse(MORSE[letter], short, 3 * short), f"Mo({letter})")

    def test_whole_names(self):
        self.called("W5 -5 W15 -55", "Mo(A) W 8s")
        self.called("R1 -1 R1 -1 R3 -3", "Mo(U) R 1s")
        self.called("G3 -1 G1 -1 G3 -1 G1 -4", "Mo(C) G 1.5s")
        self.called("W5 -5 W5", "Oc W 1.5s")
        self.called("-20 W10 -10 W30 -10", "Mo(A) W 8s")

    def test_the_lights_from_behind_the_long_dark_on(self):
        for letter in "ABCDFGJKLNPQRUVWXYZ":
            text = morse(MORSE[letter], 4, 30)
            for places in range(len(text.split(" "))):
                self.kind(turned(text, places), f"Mo({letter})")

    def test_the_long_dark_is_three_or_more(self):
        for short in (1, 2, 5, 10, 40):
            for gap, wanted in ((3 * short - 1, "Ir"), (3 * short, "Mo(A)"), (3 * short + 1, "Mo(A)")):
                self.kind(morse(".-", short, gap), wanted)
            self.kind(morse("-...", short, 2 * short), "Ir")
            self.kind(morse("-...", short, 7 * short), "Mo(B)")
        self.kind(morse("-.-", 5, 600), "Mo(K)")

    def test_a_long_light_just_missed(self):
        self.kind("W5 -5 W14 -50", "Ir")
        self.kind("W5 -5 W16 -50", "Ir")
        self.kind("W5 -5 W10 -50", "Ir")
        self.kind("W5 -5 W15 -5 W16 -50", "Ir")
        self.kind("W5 -5 W45 -150", "Ir")

    def test_a_short_light_just_missed(self):
        self.kind("W5 -5 W15 -5 W6 -50", "Ir")
        self.kind("W4 -5 W15 -50", "Ir")

    def test_a_short_dark_just_missed(self):
        self.kind("W5 -4 W15 -50", "Ir")
        self.kind("W5 -6 W15 -50", "Ir")
        self.kind("W5 -5 W15 -6 W15 -50", "Ir")
        self.kind("W5 -5 W15 -10 W15 -50", "Ir")

    def test_two_long_darks(self):
        self.called("W5 -15 W15 -50", "Ir W 8.5s")
        self.called("W5 -5 W15 -50 W5 -5 W15 -51", "Ir W 15.1s")
        self.called("W5 -5 W15 -50 W5 -50", "Ir W 13s")
        self.called("W1 -1 W3 -3 W3 -1 W1 -3", "Ir W 1.6s")
        # All darks as long: groups of the lights, or too little light for those.
        self.called("W5 -20 W15 -20", "Ir W 6s")

    def test_signs_of_no_letter(self):
        for signs in ("..--", ".-.-", "---.", "....-", ".-...", "-.-.-.-.", "...---...", "." * 10 + "-" * 5):
            self.kind(morse(signs, 5, 50), "Ir")
        self.kind(morse("-----", 5, 50), "Fl(5)")
        self.kind(morse(".....", 5, 50), "Q(5)")

    def test_a_letter_told_over(self):
        for letter in "ANKRP":
            text = morse(MORSE[letter], 5, 60)
            self.assertEqual(name(f"{text} {text} {text}"), name(text))
            self.kind(f"{text} {text}", f"Mo({letter})")


class Irregular(Names):
    def test_irregular(self):
        self.called("W5 -3 W7 -9", "Ir W 2.4s")
        self.called("W10 -10 W20 -20", "Ir W 6s")
        self.called("Y1 -2 Y3 -4 Y5 -6", "Ir Y 2.1s")


class Colours(Names):
    def test_each_colour(self):
        for letter in "WRGY":
            self.called(f"{letter}5 -55", f"Fl {letter} 6s")
            self.called(flashes([10, 40], colour=letter), f"Fl(2) {letter} 6s")

    def test_in_one_order(self):
        for count in (2, 3, 4):
            for chosen in itertools.permutations("WRGY", count):
                letters = "".join(letter for letter in "WRGY" if letter in chosen)
                self.called(" ".join(f"{letter}5" for letter in chosen), f"Al {letters} {count * 5 / 10:g}s")
                self.kind(" ".join(f"{letter}5 -25" for letter in chosen), "Al")
                self.called(" ".join(f"{letter}5 -25" for letter in chosen), f"Al Fl {letters} {count * 3}s")

    def test_before_each_kind(self):
        self.called("W5 R5 -10", "Al Iso WR 2s")
        self.called("R5 G6 -10", "Al Oc RG 2.1s")
        self.called("W1 R1 -9", "Al Q WR 1.1s")
        self.called("W1 Y1 -2 W1 Y1 -3", "Al VQ(2) WY 0.9s")
        self.called("W1 -2 R1 -2 W1 -3", "Al UQ(3) WR 1s")
        self.called("W10 R10 -40", "Al LFl WR 6s")
        self.called("W10 R9 -40", "Al Fl WR 5.9s")
        self.called("W5 -10 R5 -40", "Al Fl(2) WR 6s")
        self.called("W10 -5 G20 Y20 -5", "Al Oc(2) WGY 6s")
        self.called("W5 -5 R15 -55", "Al Mo(A) WR 8s")
        self.called("W5 -5 R5 G10 -55", "Al Mo(A) WRG 8s")
        self.called("W5 -3 R7 -9", "Al Ir WR 2.4s")

    def test_light_and_dark_alone_have_a_shorter_period(self):
        self.called("W5 -55 R5 -55", "Al Fl WR 12s")
        self.called("W5 -55 W5 -55 R5 -55", "Al Fl WR 18s")
        self.called("W5 -5 G5 -5", "Al Iso WG 2s")
        self.called("W7 -5 Y7 -5", "Al Oc WY 2.4s")
        self.called("W5 -10 W5 -40 R5 -10 R5 -40", "Al Fl(2) WR 12s")
        self.called("W5 -10 R5 -40 G5 -10 Y5 -40", "Al Fl(2) WRGY 12s")
        self.called("W10 -5 W40 -5 R10 -5 R40 -5", "Al Oc(2) WR 12s")
        self.called("W5 -5 W15 -55 R5 -5 R15 -55", "Al Mo(A) WR 16s")
        self.called("W3 R2 -55 R2 W3 -55", "Al Fl WR 12s")
        self.called("W5 -3 W7 -9 R5 -3 R7 -9", "Al Ir WR 4.8s")


class OneLightOneName(unittest.TestCase):
    LIGHTS = (
        "-5", "W5", "W5 R5", "W5 -5", "W6 -3", "W1 -2", "W5 -30", "W3 -5 W3 -9", "W3 -5 W3 -9 W3 -9 W3 -5 W3 -9",
        "W9 -2 W12 -2 W12 -2 W9 -2 W12 -2", "W2 -2 W6 -9", "R2 -2 R2 -2 R6 -6", "W5 -3 W7 -9", "W3 -9 R3 -9", "W3 R2 -4 G1 -4",
        "W2 -3 R2 -9 W2 -3 G2 -9",
    )

    def test_whatever_its_text_begins_with(self):
        for text in self.LIGHTS:
            for other in told_otherwise(text):
                self.assertEqual(name(other), name(text), other)

    def test_however_often_it_is_told_over(self):
        for text in self.LIGHTS:
            for often in range(1, 32 // len(text.split(" ")) + 1):
                self.assertEqual(name(" ".join([text] * often)), name(text), (text, often))

    def test_all_turns_of_many_groups(self):
        for darks in itertools.product((4, 9), repeat=6):
            told = {name(flashes(darks[k:] + darks[:k], 3)) for k in range(6)}
            self.assertEqual(len(told), 1, darks)


class GroupsAreAllFlashes(unittest.TestCase):
    def groups(self, told):
        return [int(number) for number in re.search(r"\(([0-9+]+)\)", told).group(1).split("+")]

    def test_all_of_its_flashes(self):
        for size in range(2, 9):
            for lengths in itertools.product((4, 9), repeat=size):
                if len(set(lengths)) == 2:
                    for text in (flashes(lengths, 3), eclipses(lengths, 3)):
                        groups = self.groups(name(text))
                        lit = ask(PERIOD, text)[2]
                        self.assertEqual(sum(groups), lit, text)
                        longer = sum(length == 9 for length in lengths)
                        self.assertEqual(len(groups) * size, longer * lit, text)
                        self.assertEqual(groups, max(groups[k:] + groups[:k] for k in range(len(groups))), text)

    def test_with_all_the_phases_there_may_be(self):
        for longer in itertools.combinations(range(16), 3):
            darks = [9 if place in longer else 4 for place in range(16)]
            groups = self.groups(name(flashes(darks, 3)))
            self.assertEqual((sum(groups), len(groups)), (16, 3), darks)


class ByTrial(unittest.TestCase):
    def check(self, texts):
        for text in texts:
            self.assertEqual(name(text), plain_name(text), text)

    def test_small_rhythms(self):
        self.check(small_rhythms("-W", 4, 4))
        self.check(small_rhythms("-WR", 4, 2))
        self.check(small_rhythms("-WRGY", 3, 1))

    def test_small_lights_and_darks(self):
        for count in (1, 2, 3):
            for lengths in itertools.product((1, 2, 3, 4), repeat=2 * count):
                self.check([" ".join(f"{'W-'[k % 2]}{length}" for k, length in enumerate(lengths))])

    def test_one_light_one_dark(self):
        self.check(f"W{light} -{dark}" for light in range(1, 30) for dark in range(1, 30))

    def test_chosen_from_afar(self):
        chooser = random.Random(17)
        for trial in range(3000):
            short = chooser.choice((1, 2, 5, 7, 19, 20))
            lights = chooser.choice(((short,), (short, 3 * short), (short, short + 1)))
            darks = chooser.choice(((short,), (short, 3 * short), (short, 4 * short), (short, short + 1)))
            letters = chooser.choice(("W", "G", "WR", "RGY"))
            words = []
            for place in range(chooser.randint(1, 8)):
                words += [f"{chooser.choice(letters)}{chooser.choice(lights)}", f"-{chooser.choice(darks)}"]
            begin = chooser.randrange(len(words))
            self.check([" ".join((words[begin:] + words[:begin]) * chooser.choice((1, 1, 2)))])


if __name__ == "__main__":
    unittest.main()
