"""The calls on rhythms, and their answers."""

from lightrhythms.forms import light_of, same_light, shift_between
from lightrhythms.rhythms import phases_of, refusal_of, text_of

JUDGE = 0
FORM = 1
SAME = 2

# How many texts the call of each number has.
TEXTS = (1, 1, 2, 2)

NOT_ONE_LIGHT = -3


def form_answer(light):
    """How many bytes the one form's text has, then these."""
    text = text_of(light.form)
    return [len(text)] + text


def shift_answer(one, other):
    """The shift from one light to the other, or the refusal."""
    if not same_light(one, other):
        return [NOT_ONE_LIGHT]
    return [shift_between(one, other)]


def answer(call, texts):
    """The numbers that are answered to one call."""
    for text in texts:
        refusal = refusal_of(text)
        if len(refusal) > 0:
            return refusal
    rhythms = [phases_of(text) for text in texts]
    if call == JUDGE:
        return [len(rhythms[0])]
    lights = [light_of(phases) for phases in rhythms]
    if call == FORM:
        return form_answer(lights[0])
    if call == SAME:
        return [1 if same_light(lights[0], lights[1]) else 0]
    return shift_answer(lights[0], lights[1])


def texts_at(calls, place, count):
    """So many texts that stand from a place on, each behind its length."""
    texts = []
    while len(texts) < count:
        behind = place + 1 + calls[place]
        texts.append(calls[place + 1:behind])
        place = behind
    return texts


def answers(calls):
    """For each call, in order: how many numbers are answered, then these."""
    told = []
    place = 0
    while place < len(calls):
        call = calls[place]
        texts = texts_at(calls, place + 1, TEXTS[call])
        numbers = answer(call, texts)
        told.append(len(numbers))
        told.extend(numbers)
        place += 1 + len(texts) + sum([len(text) for text in texts])
    return told
