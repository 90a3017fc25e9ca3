"""The one form of a rhythm, and when in the rhythm it begins."""


class Light:
    """A rhythm's one form, its period, and the first time at which the form begins in the rhythm."""

    def __init__(self, form, period, begins):
        self.form = form
        self.period = period
        self.begins = begins


def span_of(phases):
    """How long phases last together."""
    return sum([length for colour, length in phases])


def joined(phases):
    """The phases with neighbours of one colour made one, but not round the end."""
    runs = []
    for colour, length in phases:
        if len(runs) > 0 and runs[-1][0] == colour:
            runs[-1] = (colour, runs[-1][1] + length)
        else:
            runs.append((colour, length))
    return runs


def closed_behind(runs):
    """How long the first run lasts if it only goes on with the last one, else 0."""
    if len(runs) > 1 and runs[0][0] == runs[-1][0]:
        return runs[0][1]
    return 0


def one_round(runs):
    """The fewest runs that, told over and over, are these."""
    for count in range(1, len(runs)):
        if runs[:count] * (len(runs) // count) == runs:
            return runs[:count]
    return runs


def beginnings_of(row):
    """What goes round, begun at each of its places."""
    return [row[place:] + row[:place] for place in range(len(row))]


def light_of(phases):
    """The light that a rhythm of these phases is."""
    runs = joined(phases)
    if len(runs) == 1:
        return Light([(runs[0][0], 1)], 0, 0)
    lead = closed_behind(runs)
    if lead > 0:
        runs = joined(runs[1:] + runs[:1])
    turn = one_round(runs)
    period = span_of(turn)
    # Phases are tuples of colour and length, so lists of them compare as forms do.
    beginnings = beginnings_of(turn)
    form = min(beginnings)
    before = turn[:beginnings.index(form)]
    return Light(form, period, (lead + span_of(before)) % period)


def same_light(one, other):
    """Whether two lights are one."""
    return one.form == other.form


def shift_between(one, other):
    """The least time by which the colours of one, so much later, are those of other; they're one light."""
    if one.period == 0:
        return 0
    return (one.begins - other.begins) % one.period
