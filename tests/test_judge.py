"""Promise 1: a text is one rhythm's, or has one first fault."""

import re
import unittest

from tests.told import AT, CHARACTER, FORM, JUDGE, NEXT, PERIOD, SAME, SHIFT, ask, as_bytes

# Every call of one text, the times good ones, one at the bound and two too late: what a text is refused for comes first.
OF_ONE_TEXT = (
    (JUDGE,), (FORM,), (PERIOD,), (CHARACTER,), (AT, 0), (AT, 1000000), (AT, 1000001), (AT, 4294967295),
    (NEXT, 0), (NEXT, 1000000), (NEXT, 1000001), (NEXT, 4294967295),
)


def plain_judge(text):
    """What judge answers, by a pattern for a phase."""
    together = 0
    words = bytes(text).split(b" ")
    for number, word in enumerate(words):
        if not re.fullmatch(rb"[-WRGY][1-9][0-9]{0,2}", word) or int(word[1:]) > 600 or number >= 32:
            return [-6, number]
        together += int(word[1:])
        if together > 6000:
            return [-6, number]
    return [len(words)]


class Rhythms(unittest.TestCase):
    def phases(self, text, count):
        self.assertEqual(ask(JUDGE, text), [count], text)

    def test_one_phase_of_each_colour(self):
        for text in ("-1", "W1", "R5", "G10", "Y99"):
            self.phases(text, 1)

    def test_phases_are_counted_as_told(self):
        self.phases("W5 -3", 2)
        self.phases("W5 W5 W5", 3)
        self.phases("-10 W5 R6 G7 Y8", 5)

    def test_lengths_at_the_edge(self):
        for length in (1, 9, 10, 99, 100, 101, 599, 600):
            self.phases(f"G{length}", 1)

    def test_thirty_two_phases(self):
        self.phases(" ".join(["W1", "-1"] * 16), 32)
        self.phases(" ".join(["W187", "-188"] * 16), 32)

    def test_six_thousand_together(self):
        self.phases(" ".join(["W600"] * 10), 10)
        self.phases(" ".join(["W600"] * 9 + ["-599", "R1"]), 11)


class Faults(unittest.TestCase):
    def fault(self, text, number):
        for call in OF_ONE_TEXT:
            self.assertEqual(ask(*call, text), [-6, number], (call, text))

    def test_no_bytes(self):
        self.fault("", 0)

    def test_blanks(self):
        self.fault(" ", 0)
        self.fault(" W5", 0)
        self.fault("W5 ", 1)
        self.fault("W5 -3 ", 2)
        self.fault("W5  -3", 1)
        self.fault("W5 -3   R2", 2)

    def test_other_white_space_is_no_blank(self):
        for space in "\t\n\r\v\f\0\xa0":
            self.fault(f"W5{space}-3", 0)
            self.fault(f"R1 W5{space}", 1)

    def test_unknown_colours(self):
        for colour in "wrgyBDA0159+_.\0\xff\x80":
            self.fault(f"{colour}5", 0)
            self.fault(f"W5 {colour}5", 1)

    def test_every_other_byte_is_no_colour(self):
        for byte in range(256):
            if byte not in as_bytes("-WRGY "):
                self.fault([87, 53, 32, byte, 53], 1)

    def test_colour_without_length(self):
        for colour in "-WRGY":
            self.fault(colour, 0)
            self.fault(f"W5 {colour}", 1)
        self.fault("W 5", 0)

    def test_length_without_colour(self):
        self.fault("W5 12", 1)

    def test_length_of_nought(self):
        self.fault("W0", 0)
        self.fault("-5 R0", 1)
        self.fault("W00", 0)

    def test_needless_noughts(self):
        self.fault("W05", 0)
        self.fault("W5 -010", 1)
        self.fault("W0600", 0)

    def test_length_above_600(self):
        for length in (601, 610, 700, 999, 1000, 6000, 6001, 10 ** 9, 2 ** 32 + 5, 2 ** 64 + 5):
            self.fault(f"W{length}", 0)
            self.fault(f"-1 W{length}", 1)

    def test_every_other_byte_is_no_digit(self):
        for byte in range(256):
            if byte not in as_bytes("0123456789 "):
                self.fault([87, byte], 0)
                self.fault([87, byte, 53], 0)
                self.fault([87, 53, byte], 0)
                self.fault([87, 49, byte, 53], 0)

    def test_signs_in_a_length(self):
        for length in ("+5", "-5", "5.", "1e2", "0x5", "1_0", "5W", "W5", "5-3"):
            self.fault(f"W{length}", 0)

    def test_the_33rd_phase(self):
        self.fault(" ".join(["W1", "-1"] * 16 + ["R1"]), 32)
        self.fault(" ".join(["W1"] * 40), 32)
        self.fault(" ".join(["W1"] * 32) + " ", 32)
        self.fault(" ".join(["W1"] * 32 + ["bad"]), 32)

    def test_more_than_six_thousand_together(self):
        self.fault(" ".join(["W600"] * 10 + ["W1"]), 10)
        self.fault(" ".join(["W600"] * 9 + ["-599", "R2"]), 10)
        self.fault(" ".join(["W600"] * 9 + ["-599", "R1", "G1", "Y1"]), 11)
        self.fault(" ".join(["W187", "-188"] * 15 + ["W188", "-188"]), 31)

    def test_the_first_of_several_faults(self):
        self.fault("W5 X3 W0 ", 1)
        self.fault("W5  X3", 1)
        self.fault("W5 -3 W601 -0", 2)
        self.fault(" ".join(["W600"] * 9 + ["W601", "W600", "W600"]), 9)
        self.fault(" ".join(["W600"] * 11 + ["x"]), 10)
        self.fault(" ".join(["W600"] * 40), 10)
        self.fault(" ".join(["W1"] * 31 + ["W0"] + ["W1"] * 5), 31)
        self.fault(" ".join(["W1"] * 33 + ["W0"]), 32)

    def test_short_texts_of_every_make(self):
        signs = as_bytes("-WRx 0169")
        texts = [[]]
        for size in range(5):
            for text in texts:
                self.assertEqual(ask(JUDGE, text), plain_judge(text), text)
            texts = [text + [sign] for text in texts for sign in signs]


class ManyBytes(unittest.TestCase):
    def test_1024_bytes_are_read(self):
        self.assertEqual(ask(JUDGE, "W" + "1" * 1023), [-6, 0])
        self.assertEqual(ask(JUDGE, "W1 " * 341 + "W"), [-6, 32])
        self.assertEqual(ask(JUDGE, "W1 -1 " + "R" * 1018), [-6, 2])
        self.assertEqual(ask(JUDGE, " " * 1024), [-6, 0])

    def test_1025_bytes_are_refused(self):
        for text in ("W" + "1" * 1024, "W1 " * 341 + "W1", " " * 1025, "x" * 1025, "W5 " + "\xff" * 1997):
            for call in OF_ONE_TEXT:
                self.assertEqual(ask(*call, text), [-2], (call, text))


class TwoTexts(unittest.TestCase):
    def refused(self, one, other, answer):
        for call in (SAME, SHIFT):
            self.assertEqual(ask(call, one, other), answer, (one, other))

    def test_the_first_is_refused(self):
        self.refused("W5 x", "W5", [-6, 1])
        self.refused("", "W5", [-6, 0])
        self.refused("W" * 1025, "W5", [-2])

    def test_the_second_is_refused(self):
        self.refused("W5", "W5 -1 W0", [-6, 2])
        self.refused("W5", "", [-6, 0])
        self.refused("W5 -3", "W" * 2000, [-2])

    def test_both_are_refused(self):
        self.refused("W5 x", "x", [-6, 1])
        self.refused("x", "W5 x", [-6, 0])
        self.refused("W5 -1 x", "W" * 1025, [-6, 2])
        self.refused("W" * 1025, "W5 x", [-2])
        self.refused("W" * 1025, "W" * 1025, [-2])
        self.refused("", "", [-6, 0])


if __name__ == "__main__":
    unittest.main()
