"""The calls on rhythms, and their answers."""

from lightrhythms.forms import light_of, same_light, shift_between
from lightrhythms.names import name_of
from lightrhythms.rhythms import DARK, phases_of, refusal_of, text_of
from lightrhythms.times import change_behind, colour_at

JUDGE = 0
FORM = 1
SAME = 2
SHIFT = 3
AT = 4
PERIOD = 6

# How many times, and how many texts, the call of each number has.
TIMES = (0, 0, 0, 0, 1, 1, 0, 0)
TEXTS = (1, 1, 2, 2, 1, 1, 1, 1)

LATEST = 1000000

TOO_LATE = -1
THERE_IS_NONE = -3


def form_answer(light):
    """How many bytes the one form's text has, then these."""
    text = text_of(light.form)
    return [len(text)] + text


def shift_answer(one, other):
    """The shift from one light to the other, or the refusal."""
    if not same_light(one, other):
        return [THERE_IS_NONE]
    return [shift_between(one, other)]


def next_answer(phases, time):
    """The time of the next change, or the refusal."""
    change = change_behind(phases, time)
    if change is None:
        return [THERE_IS_NONE]
    return [change]


def timed_answer(call, phases, time):
    """The answer to at or next."""
    if time > LATEST:
        return [TOO_LATE]
    if call == AT:
        return [colour_at(phases, time)]
    return next_answer(phases, time)


def period_answer(light):
    """The period, how many tenths of it are lit, and how many phases of the one form."""
    # The form of a rhythm that never changes lasts 1, which is what is to be told of it as lit.
    lit = [length for colour, length in light.form if colour != DARK]
    return [light.period, sum(lit), len(lit)]


def character_answer(light):
    """How many bytes the name has, then these."""
    name = name_of(light)
    return [len(name)] + [ord(sign) for sign in name]


def light_answer(call, lights):
    """The answer to a call that asks of one light or of two."""
    if call == FORM:
        return form_answer(lights[0])
    if call == SAME:
        return [1 if same_light(lights[0], lights[1]) else 0]
    if call == SHIFT:
        return shift_answer(lights[0], lights[1])
    if call == PERIOD:
        return period_answer(lights[0])
    return character_answer(lights[0])


def answer(call, times, texts):
    """The numbers that are answered to one call."""
    for text in texts:
        refusal = refusal_of(text)
        if len(refusal) > 0:
            return refusal
    rhythms = [phases_of(text) for text in texts]
    if call == JUDGE:
        return [len(rhythms[0])]
    if len(times) > 0:
        return timed_answer(call, rhythms[0], times[0])
    return light_answer(call, [light_of(phases) for phases in rhythms])


def texts_at(calls, place, count):
    """So many texts that stand from a place on, each behind its length."""
    texts = []
    while len(texts) < count:
        behind = place + 1 + calls[place]
        texts.append(calls[place + 1:behind])
        place = behind
    return texts


def answers(calls):
    """For each call, in order: how many numbers are answered, then these."""
    told = []
    place = 0
    while place < len(calls):
        call = calls[place]
        begin = place + 1 + TIMES[call]
        texts = texts_at(calls, begin, TEXTS[call])
        numbers = answer(call, calls[place + 1:begin], texts)
        told.append(len(numbers))
        told.extend(numbers)
        place = begin + len(texts) + sum([len(text) for text in texts])
    return told
