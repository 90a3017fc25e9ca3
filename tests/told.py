"""What the tests share: calls written and read, and rhythms gone through tenth by tenth."""

import itertools
import math

from lightrhythms.lights import answers

JUDGE, FORM, SAME, SHIFT, AT, NEXT, PERIOD, CHARACTER = range(8)
LETTERS = "-WRGY"

MORSE = dict(word.split("=") for word in (
    "A=.- B=-... C=-.-. D=-.. E=. F=..-. G=--. H=.... I=.. J=.--- K=-.- L=.-.. M=-- N=-. O=--- P=.--. Q=--.- R=.-. "
    "S=... T=- U=..- V=...- W=.-- X=-..- Y=-.-- Z=--.."
).split())


def as_bytes(text):
    return list(text.encode("latin-1")) if isinstance(text, str) else list(text)


def call(number, *handed):
    """One call's numbers: a whole number as it is, a text behind its length."""
    numbers = [number]
    for given in handed:
        numbers += [given] if isinstance(given, int) else [len(as_bytes(given))] + as_bytes(given)
    return numbers


def ask(number, *handed):
    """The numbers answered to one call, without their count, which must be right."""
    given = answers(call(number, *handed))
    if given[0] != len(given) - 1:
        raise AssertionError(f"count {given[0]} ahead of {given[1:]}")
    return given[1:]


def text_told(number, text):
    """The text that form or character answers, without its length, which must be right."""
    given = ask(number, text)
    if given[0] != len(given) - 1:
        raise AssertionError(f"length {given[0]} ahead of {given[1:]}")
    return bytes(given[1:]).decode("ascii")


def form_text(text):
    return text_told(FORM, text)


def name(text):
    return text_told(CHARACTER, text)


def colours(text):
    """The colour of each tenth, once round; no limits, so forms can be read too."""
    return "".join(word[0] * int(word[1:]) for word in text.split(" "))


def plain_period(tenths):
    """The least time above 0 behind which all colours come again, by trying each; 0 if they never change."""
    if len(set(tenths)) == 1:
        return 0
    return next(n for n in range(1, len(tenths) + 1) if tenths[n:] + tenths[:n] == tenths)


def runs_of(tenths):
    """Texts of the phases that these tenths are, in order."""
    return [f"{colour}{len(list(run))}" for colour, run in itertools.groupby(tenths)]


def told_otherwise(text):
    """Texts of one light: begun at every tenth of it, its first phase then told as two, once and twice over."""
    tenths = colours(text)
    for begin in range(len(tenths)):
        runs = runs_of(tenths[begin:] + tenths[:begin])
        yield " ".join(runs)
        yield " ".join(runs * 2)
        if int(runs[0][1:]) > 1:
            yield " ".join([runs[0][0] + "1", f"{runs[0][0]}{int(runs[0][1:]) - 1}"] + runs[1:])


def plain_form(text):
    """The one form's text, by trying every period and every beginning."""
    round_ = colours(text)
    if len(set(round_)) == 1:
        return round_[0] + "1"
    period = plain_period(round_)
    told = []
    for begin in range(period):
        turned = (round_[begin:] + round_[:begin])[:period]
        if turned[0] != turned[-1]:
            told.append([(LETTERS.index(c), len(list(run))) for c, run in itertools.groupby(turned)])
    return " ".join(f"{LETTERS[colour]}{length}" for colour, length in min(told))


def plain_shift(one, other):
    """The least time by which one's colours, so much later, are the other's; -3 if there's none."""
    first, second = colours(one), colours(other)
    span = math.lcm(len(first), len(second))
    wanted = second * (span // len(second))
    twice = first * (2 * span // len(first))
    for later in range(len(first)):
        if twice[later:later + span] == wanted:
            return later
    return -3


def small_rhythms(letters, most_phases, longest):
    """Every rhythm's text within these bounds."""
    words = [f"{letter}{length}" for letter in letters for length in range(1, longest + 1)]
    for count in range(1, most_phases + 1):
        for chosen in itertools.product(words, repeat=count):
            yield " ".join(chosen)
