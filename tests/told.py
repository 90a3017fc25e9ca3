"""What the tests share: calls written and read, and rhythms gone through tenth by tenth."""

import itertools
import math

from lightrhythms.lights import answers

JUDGE, FORM, SAME, SHIFT = 0, 1, 2, 3
LETTERS = "-WRGY"


def as_bytes(text):
    return list(text.encode("latin-1")) if isinstance(text, str) else list(text)


def call(number, *texts):
    numbers = [number]
    for text in texts:
        numbers += [len(as_bytes(text))] + as_bytes(text)
    return numbers


def ask(number, *texts):
    """The numbers answered to one call, without their count, which must be right."""
    given = answers(call(number, *texts))
    if given[0] != len(given) - 1:
        raise AssertionError(f"count {given[0]} ahead of {given[1:]}")
    return given[1:]


def form_text(text):
    """The text that form answers, with its length, which must be right."""
    given = ask(FORM, text)
    if given[0] != len(given) - 1:
        raise AssertionError(f"length {given[0]} ahead of {given[1:]}")
    return bytes(given[1:]).decode("ascii")


def colours(text):
    """The colour of each tenth, once round; no limits, so forms can be read too."""
    return "".join(word[0] * int(word[1:]) for word in text.split(" "))


def plain_form(text):
    """The one form's text, by trying every period and every beginning."""
    round_ = colours(text)
    if len(set(round_)) == 1:
        return round_[0] + "1"
    period = next(n for n in range(1, len(round_) + 1) if round_[n:] + round_[:n] == round_)
    told = []
    for begin in range(period):
        turned = (round_[begin:] + round_[:begin])[:period]
        if turned[0] != turned[-1]:
            told.append([(LETTERS.index(c), len(list(run))) for c, run in itertools.groupby(turned)])
    return " ".join(f"{LETTERS[colour]}{length}" for colour, length in min(told))


def plain_shift(one, other):
    """The least time by which one's colours, so much later, are the other's; -3 if there's none."""
    first, second = colours(one), colours(other)
    span = math.lcm(len(first), len(second))
    wanted = second * (span // len(second))
    twice = first * (2 * span // len(first))
    for later in range(len(first)):
        if twice[later:later + span] == wanted:
            return later
    return -3


def small_rhythms(letters, most_phases, longest):
    """Every rhythm's text within these bounds."""
    words = [f"{letter}{length}" for letter in letters for length in range(1, longest + 1)]
    for count in range(1, most_phases + 1):
        for chosen in itertools.product(words, repeat=count):
            yield " ".join(chosen)
