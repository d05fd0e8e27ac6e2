"""Texts: what the lines of a text mean, and which fault they have."""

from lacepillow.laces import act_of_letter
from lacepillow.limits import MOST_BYTES, MOST_PAIRS
from lacepillow.words import is_name, number_of, text_of

MOST_WORKED = 4096
DEEPEST = 8

NO_FAULT = 0
NO_LINE = 1
WRONG_NAME = 2
WRONG_PAIR = 3
WRONG_REPEAT = 4
TOO_MANY_ACTS = 5

# A stitch is kept as its letters, one for each act.
FIRST_STITCHES = {"c": "c", "t": "lr", "l": "l", "r": "r"}


class Reading:
    """A text as far as it has been read.

    blocks has what was worked in the text itself and in each repeat that is open, as acts
    with the line that each came of; times has how often each open repeat is worked.
    """

    def __init__(self):
        self.line = 0
        self.pairs = 0
        self.stitches = dict(FIRST_STITCHES)
        self.blocks = [[]]
        self.times = []
        self.fault = []
        self.acts = []


def times_over(worked, times):
    """The worked acts so many times, or as often as makes them too many."""
    if len(worked) == 0:
        return worked
    return worked * min(times, MOST_WORKED // len(worked) + 1)


def is_full(reading):
    """Whether more can't matter: some open block has too many acts already."""
    return any([len(block) > MOST_WORKED for block in reading.blocks])


def work_letters(reading, letters, pair):
    """Work a stitch at this pair and the next one."""
    if not is_full(reading):
        reading.blocks[-1].extend([(act_of_letter(letter, pair), reading.line) for letter in letters])


def read_item(word):
    """An item as how many times and what; 0 times if the word is no item."""
    parts = word.partition("*")
    times = 1
    stem = word
    if parts[1] != "":
        times = number_of(parts[0])
        stem = parts[2]
    if times < 1 or not (stem in FIRST_STITCHES or is_name(stem)):
        return (0, "")
    return (times, stem)


def are_items(items):
    """Whether there is an item, and all of them are ones."""
    return len(items) > 0 and all([times > 0 for times, stem in items])


def are_known(reading, items):
    """Whether every item's name was let before."""
    return all([stem in reading.stitches for times, stem in items])


def letters_of(reading, items):
    """The letters that the items come to; of too many, one too many."""
    letters = ""
    for times, stem in items:
        if len(letters) <= MOST_WORKED:
            letters = letters + times_over(reading.stitches[stem], times)
    return letters[:MOST_WORKED + 1]


def read_pairs(reading, words):
    """The line pairs N."""
    if len(words) != 2 or words[0] != "pairs" or not 1 <= number_of(words[1]) <= MOST_PAIRS:
        return NO_LINE
    reading.pairs = number_of(words[1])
    return NO_FAULT


def read_let(reading, words):
    """A line let NAME = ITEMS."""
    items = [read_item(word) for word in words[3:]]
    if not are_items(items) or words[2] != "=" or not is_name(words[1]):
        return NO_LINE
    if words[1] in reading.stitches or not are_known(reading, items):
        return WRONG_NAME
    reading.stitches[words[1]] = letters_of(reading, items)
    return NO_FAULT


def read_do(reading, words):
    """A line do K ITEMS."""
    items = [read_item(word) for word in words[2:]]
    if not are_items(items) or number_of(words[1]) < 0:
        return NO_LINE
    if not are_known(reading, items):
        return WRONG_NAME
    if number_of(words[1]) + 1 >= reading.pairs:
        return WRONG_PAIR
    work_letters(reading, letters_of(reading, items), number_of(words[1]))
    return NO_FAULT


def is_row(lefts, pairs):
    """Whether a row's left pairs have one beside them, each at least 2 behind the one before."""
    least = 0
    for left in lefts:
        if left < least or left + 1 >= pairs:
            return False
        least = left + 2
    return True


def read_row(reading, words):
    """A line row NAME K K ..."""
    lefts = [number_of(word) for word in words[2:]]
    if len(lefts) == 0 or min(lefts) < 0 or not is_name(words[1]):
        return NO_LINE
    if words[1] not in reading.stitches:
        return WRONG_NAME
    if not is_row(lefts, reading.pairs):
        return WRONG_PAIR
    for left in lefts:
        work_letters(reading, reading.stitches[words[1]], left)
    return NO_FAULT


def read_act(reading, words, letter, width):
    """A line twist K M or cross K M: an act by its letter, and how many pairs it needs."""
    if len(words) != 3 or number_of(words[1]) < 0 or number_of(words[2]) < 1:
        return NO_LINE
    if number_of(words[1]) + width > reading.pairs:
        return WRONG_PAIR
    work_letters(reading, times_over(letter, number_of(words[2])), number_of(words[1]))
    return NO_FAULT


def read_repeat(reading, words):
    """A line repeat M."""
    if len(words) != 2 or number_of(words[1]) < 1:
        return NO_LINE
    if len(reading.times) >= DEEPEST:
        return WRONG_REPEAT
    reading.times.append(number_of(words[1]))
    reading.blocks.append([])
    return NO_FAULT


def read_end(reading, words):
    """A line end."""
    if len(words) != 1:
        return NO_LINE
    if len(reading.times) == 0:
        return WRONG_REPEAT
    block = times_over(reading.blocks.pop(), reading.times.pop())
    reading.blocks[-1].extend(block)
    return NO_FAULT


def read_line(reading, words):
    """Read the next line, and tell the kind of its fault."""
    if reading.line == 0:
        return read_pairs(reading, words)
    if words[0] == "let":
        return read_let(reading, words)
    if words[0] == "do":
        return read_do(reading, words)
    if words[0] == "row":
        return read_row(reading, words)
    if words[0] == "twist":
        return read_act(reading, words, "l", 1)
    if words[0] == "cross":
        return read_act(reading, words, "c", 2)
    if words[0] == "repeat":
        return read_repeat(reading, words)
    if words[0] == "end":
        return read_end(reading, words)
    return NO_LINE


def finish(reading, rest):
    """Judge the text behind all its lines; rest is what stands behind the last line feed."""
    worked = reading.blocks[0]
    if reading.line == 0 or rest != "":
        reading.fault = [NO_LINE, reading.line]
    elif len(reading.times) > 0:
        reading.fault = [WRONG_REPEAT, reading.line]
    elif len(worked) > MOST_WORKED:
        # The first act that is too many came of the line that is asked for.
        reading.fault = [TOO_MANY_ACTS, worked[MOST_WORKED][1]]
    else:
        reading.acts = [act for act, line in worked]


def read_text(codes):
    """Read a text of bytes: it comes to have a fault (kind and line), or pairs and acts."""
    reading = Reading()
    if len(codes) > MOST_BYTES:
        reading.fault = [NO_LINE, 0]
        return reading
    lines = text_of(codes).split("\n")
    rest = lines.pop()
    for line in lines:
        kind = read_line(reading, line.split(" "))
        if kind != NO_FAULT:
            reading.fault = [kind, reading.line]
            return reading
        reading.line = reading.line + 1
    finish(reading, rest)
    return reading
