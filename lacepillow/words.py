"""Words: names and numbers, and the signs that they are made of."""

LETTERS = "abcdefghijklmnopqrstuvwxyz"
SIGNS = "\n *=0123456789abcdefghijklmnopqrstuvwxyz"
# It stands for every byte that no line and no name may have.
OTHER_SIGN = "?"
LONGEST_NAME = 12
# With no 0 in front, more digits than these are more than 99,999.
MOST_DIGITS = 5
NO_NAMES = ("pairs", "let", "do", "row", "twist", "cross", "repeat", "end", "c", "t", "l", "r")
NO_NUMBER = -1


def text_of(codes):
    """The bytes as a text."""
    signs = dict([(ord(sign), sign) for sign in SIGNS])
    return "".join([signs.get(code, OTHER_SIGN) for code in codes])


def counted_codes(word):
    """How many bytes the word has, and these."""
    return [len(word)] + [ord(sign) for sign in word]


def is_name(word):
    """Whether the word is a name."""
    if not 1 <= len(word) <= LONGEST_NAME or word in NO_NAMES:
        return False
    return all([sign in LETTERS for sign in word])


def number_of(word):
    """The number that the word tells, or NO_NUMBER."""
    if len(word) > MOST_DIGITS or not word.isdigit():
        return NO_NUMBER
    if word[0] == "0" and len(word) > 1:
        return NO_NUMBER
    return int(word)
