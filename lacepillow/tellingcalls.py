"""The calls that only tell: pairs, names, piece, pattern, check, next, save."""

from lacepillow.laces import common_beginning, first_acts, left_behind
from lacepillow.pillowbytes import pillow_codes
from lacepillow.refusals import ABSENT, DONE, UNFIT
from lacepillow.words import counted_codes


def tell_pairs(pillow):
    """How many pairs the pillow has."""
    return [DONE, pillow.pairs]


def tell_names(pillow):
    """The patterns' names in order, each with how many bytes it has."""
    answer = [DONE]
    for word in sorted(pillow.patterns):
        answer.extend(counted_codes(word))
    return answer


def tell_piece(pillow):
    """The piece's form."""
    return [DONE] + pillow.piece


def tell_pattern(pillow, name):
    """A pattern's form."""
    pattern = pillow.pattern_under(name)
    if pattern is None:
        return [ABSENT]
    return [DONE] + pattern


def check(pillow, name):
    """Whether the piece is right by a pattern, how far they agree, and what's left of each."""
    pattern = pillow.pattern_under(name)
    if pattern is None:
        return [ABSENT]
    common = len(common_beginning(pillow.piece, pattern))
    mistake = len(pillow.piece) - common
    right = 1 if mistake == 0 else 0
    return [DONE, right, common, mistake, len(pattern) - common]


def tell_next(pillow, name):
    """The acts that can be worked next so that the piece stays right by a pattern."""
    pattern = pillow.pattern_under(name)
    if pattern is None:
        return [ABSENT]
    if len(common_beginning(pillow.piece, pattern)) < len(pillow.piece):
        return [UNFIT]
    return [DONE] + first_acts(left_behind(pattern, pillow.piece))


def save(pillow):
    """The pillow's bytes."""
    return [DONE] + pillow_codes(pillow)
