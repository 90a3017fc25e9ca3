"""Texts of rhythms: found at fault, read into phases, and written.

A phase is a tuple: the colour's number (0 dark, 1 white, 2 red, 3 green,
4 yellow), then how many tenths it lasts.
"""

DARK = 0

# The place of a byte here is its colour's number.
COLOUR_BYTES = (45, 87, 82, 71, 89)
BLANK = 32
NOUGHT = 48
NINE = 57

MOST_BYTES = 1024
MOST_PHASES = 32
LONGEST_PHASE = 600
LONGEST_RHYTHM = 6000

TOO_MANY_BYTES = -2
AT_FAULT = -6


def words_of(text):
    """What stands before, between and behind the blanks, words of no bytes among them."""
    words = []
    word = []
    for byte in text:
        if byte == BLANK:
            words.append(word)
            word = []
        else:
            word.append(byte)
    words.append(word)
    return words


def length_of(digits):
    """The length that these bytes tell, or 0 if they tell none that a phase may have."""
    if len(digits) == 0 or digits[0] == NOUGHT:
        return 0
    length = 0
    for digit in digits:
        if digit < NOUGHT or digit > NINE:
            return 0
        length = length * 10 + digit - NOUGHT
        # Left here, not behind the loop: a text may hold a thousand digits.
        if length > LONGEST_PHASE:
            return 0
    return length


def phase_of(word):
    """The phase that a word tells, or None if it's none."""
    if len(word) == 0 or word[0] not in COLOUR_BYTES:
        return None
    length = length_of(word[1:])
    if length == 0:
        return None
    return (COLOUR_BYTES.index(word[0]), length)


def fault_of(text):
    """The number of the first phase at fault, or None if the text is a rhythm's."""
    together = 0
    for number, word in enumerate(words_of(text)):
        phase = phase_of(word)
        if phase is None or number == MOST_PHASES:
            return number
        together += phase[1]
        if together > LONGEST_RHYTHM:
            return number
    return None


def refusal_of(text):
    """The refusal's numbers, or an empty list if the text is a rhythm's."""
    if len(text) > MOST_BYTES:
        return [TOO_MANY_BYTES]
    fault = fault_of(text)
    if fault is None:
        return []
    return [AT_FAULT, fault]


def phases_of(text):
    """The phases of a text that is a rhythm's."""
    return [phase_of(word) for word in words_of(text)]


def text_of(phases):
    """The text of phases, however long they last."""
    text = []
    for colour, length in phases:
        if len(text) > 0:
            text.append(BLANK)
        text.append(COLOUR_BYTES[colour])
        text.extend([ord(digit) for digit in str(length)])
    return text
