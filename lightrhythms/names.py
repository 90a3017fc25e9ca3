"""The name of a light: its kind, its colours, its period."""

from lightrhythms.forms import beginnings_of, light_of
from lightrhythms.rhythms import DARK

LIT = 1

# The colours that are lit, in the order in which a name has them.
LETTERS = ((1, "W"), (2, "R"), (3, "G"), (4, "Y"))

FIXED = "F"
OCCULTING = "Oc"

LONG_FLASH = 20

MORSE = {
    ".-": "A", "-...": "B", "-.-.": "C", "-..": "D", ".": "E", "..-.": "F", "--.": "G", "....": "H", "..": "I",
    ".---": "J", "-.-": "K", ".-..": "L", "--": "M", "-.": "N", "---": "O", ".--.": "P", "--.-": "Q", ".-.": "R",
    "...": "S", "-": "T", "..-": "U", "...-": "V", ".--": "W", "-..-": "X", "-.--": "Y", "--..": "Z",
}


def flash_name(light, every):
    """What lights so long, that come every so many tenths, are called."""
    if light >= LONG_FLASH:
        return "LFl"
    if every <= 3:
        return "UQ"
    if every <= 7:
        return "VQ"
    if every <= 12:
        return "Q"
    return "Fl"


def kind_of_one(light, dark):
    """The kind of one light and one dark."""
    if light == dark:
        return "Iso"
    if light > dark:
        return OCCULTING
    return flash_name(light, light + dark)


def sizes_of(lengths):
    """How many different lengths there are."""
    return len(set(lengths))


def groups_of(lengths):
    """How many stand up to each of the longer ones, that included, begun so that they come last."""
    longer = max(lengths)
    behind = lengths.index(longer) + 1
    groups = []
    count = 0
    for length in lengths[behind:] + lengths[:behind]:
        count += 1
        if length == longer:
            groups.append(count)
            count = 0
    return max(beginnings_of(groups))


def grouped(name, lengths):
    """A name with the groups of lengths behind it."""
    groups = "+".join([str(group) for group in groups_of(lengths)])
    return f"{name}({groups})"


def letter_of(lights, darks):
    """The letter that lights and darks tell in Morse, or a text of no signs if it's none."""
    short = min(lights)
    gaps = [place for place, dark in enumerate(darks) if dark >= 3 * short]
    if len(gaps) != 1 or darks.count(short) != len(darks) - 1:
        return ""
    if not all([light in (short, 3 * short) for light in lights]):
        return ""
    place = gaps[0]
    signs = "".join(["." if light == short else "-" for light in lights[place:] + lights[:place]])
    return MORSE.get(signs, "")


def kind_of_more(lights, darks):
    """The kind of more than one light; each dark stands ahead of the light that has its place."""
    if sizes_of(lights) == 1 and sizes_of(darks) == 2:
        return grouped(flash_name(lights[0], lights[0] + min(darks)), darks)
    if sizes_of(darks) == 1 and sizes_of(lights) == 2 and sum(lights) >= sum(darks):
        return grouped(OCCULTING, lights)
    letter = letter_of(lights, darks)
    if letter == "":
        return "Ir"
    return f"Mo({letter})"


def kind_of(form):
    """The kind of a light that's lit at some time, by light and dark alone."""
    # Without the colours the period may be shorter, so the one form is sought anew.
    shades = light_of([(DARK if colour == DARK else LIT, length) for colour, length in form]).form
    lights = [length for shade, length in shades if shade == LIT]
    darks = [length for shade, length in shades if shade == DARK]
    if len(darks) == 0:
        return FIXED
    if len(darks) == 1:
        return kind_of_one(lights[0], darks[0])
    return kind_of_more(lights, darks)


def kind_with_colours(kind, letters):
    """The kind, with what tells that there's more than one colour."""
    if len(letters) == 1:
        return kind
    if kind == FIXED:
        return "Al"
    return f"Al {kind}"


def letters_of(form):
    """The letters of the colours that come in a form."""
    present = [colour for colour, length in form]
    return "".join([letter for colour, letter in LETTERS if colour in present])


def seconds_of(period):
    """A period of so many tenths, told in seconds."""
    whole = period // 10
    tenths = period % 10
    if tenths == 0:
        return f"{whole}s"
    return f"{whole}.{tenths}s"


def name_of(light):
    """The name of a light."""
    letters = letters_of(light.form)
    if letters == "":
        return "dark"
    words = [kind_with_colours(kind_of(light.form), letters), letters]
    if light.period > 0:
        words.append(seconds_of(light.period))
    return " ".join(words)
