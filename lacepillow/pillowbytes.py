"""A pillow's bytes: how it is saved, and how bytes that tell a pillow are read."""

from lacepillow.laces import is_act, place_in_form
from lacepillow.limits import MOST_ACTS, MOST_PAIRS, MOST_PATTERNS
from lacepillow.words import LONGEST_NAME, counted_codes, is_name, text_of

MARK = (76, 67, 80, 49)
BYTES_OF_COUNT = 4


class NoPillow(Exception):
    """The bytes tell no pillow: the place of the first one that's wrong."""

    def __init__(self, place):
        self.place = place


class Loading:
    """Bytes as far as they have been read, and the pillow that they told so far."""

    def __init__(self, codes):
        self.codes = codes
        self.place = 0
        self.pairs = 0
        self.piece = []
        self.patterns = {}


def lace_codes(lace):
    """The bytes of a lace: how many acts it has, the lowest byte first, and its form."""
    codes = []
    rest = len(lace)
    for turn in range(BYTES_OF_COUNT):
        codes.append(rest % 256)
        rest = rest // 256
    return codes + lace


def pillow_codes(pillow):
    """The pillow's bytes."""
    codes = list(MARK) + [pillow.pairs, len(pillow.patterns)] + lace_codes(pillow.piece)
    for word in sorted(pillow.patterns):
        codes.extend(counted_codes(word) + lace_codes(pillow.patterns[word]))
    return codes


def read_code(loading):
    """The next byte."""
    if loading.place >= len(loading.codes):
        raise NoPillow(len(loading.codes))
    loading.place = loading.place + 1
    return loading.codes[loading.place - 1]


def read_code_within(loading, least, most):
    """The next byte, which is to be from the least to the most."""
    place = loading.place
    code = read_code(loading)
    if not least <= code <= most:
        raise NoPillow(place)
    return code


def read_count(loading):
    """How many acts a lace has."""
    place = loading.place
    count = 0
    worth = 1
    for turn in range(BYTES_OF_COUNT):
        count = count + worth * read_code(loading)
        worth = worth * 256
    if count > MOST_ACTS:
        raise NoPillow(place)
    return count


def read_lace(loading):
    """A lace, told as its form."""
    lace = []
    for turn in range(read_count(loading)):
        place = loading.place
        act = read_code(loading)
        # A form's beginnings are forms: it stays one only if the act's own place is behind all.
        if not is_act(act, loading.pairs) or place_in_form(lace, act) < len(lace):
            raise NoPillow(place)
        lace.append(act)
    return lace


def read_name(loading, before):
    """A pattern's name, which is to come behind the one before."""
    place = loading.place
    codes = []
    for turn in range(read_code_within(loading, 1, LONGEST_NAME)):
        codes.append(read_code(loading))
    word = text_of(codes)
    if not is_name(word) or word <= before:
        raise NoPillow(place)
    return word


def read_pillow(codes):
    """The pairs, the piece and the patterns of the pillow that these bytes tell."""
    loading = Loading(codes)
    for code in MARK:
        read_code_within(loading, code, code)
    loading.pairs = read_code_within(loading, 1, MOST_PAIRS)
    count = read_code_within(loading, 0, MOST_PATTERNS)
    loading.piece = read_lace(loading)
    word = ""
    for turn in range(count):
        word = read_name(loading, word)
        loading.patterns[word] = read_lace(loading)
    if loading.place < len(codes):
        raise NoPillow(loading.place)
    return loading
