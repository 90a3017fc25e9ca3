"""A rhythm at a time: its colour then, and when that changes."""

from lightrhythms.forms import joined, span_of


def phases_from(phases, time):
    """The phases from a time on, each once; of the first, what is left of it then."""
    gone = time % span_of(phases)
    place = 0
    while gone >= phases[place][1]:
        gone -= phases[place][1]
        place += 1
    first = (phases[place][0], phases[place][1] - gone)
    return [first] + phases[place + 1:] + phases[:place]


def colour_at(phases, time):
    """The number of the colour at a time."""
    return phases_from(phases, time)[0][0]


def change_behind(phases, time):
    """The first time behind this one at which the colour is another, or None if it never changes."""
    # Neighbours may have one colour, round the end too: only where runs meet does the colour change.
    runs = joined(phases_from(phases, time))
    if len(runs) == 1:
        return None
    return time + runs[0][1]
