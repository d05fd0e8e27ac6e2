"""The calls that change the piece: work, workby, back, mend."""

from lacepillow.laces import common_beginning, is_act, taken_back, worked_behind
from lacepillow.limits import MOST_ACTS
from lacepillow.refusals import ABSENT, DONE, FAULTY, FULL, UNFIT, WRONG


def refusal_of_acts(pillow, acts):
    """The refusal of acts that are told, or DONE."""
    if len(acts) > MOST_ACTS:
        return WRONG
    if not all([is_act(act, pillow.pairs) for act in acts]):
        return FAULTY
    return DONE


def lay_piece(pillow, piece):
    """Lay another piece, and answer how many acts it has."""
    pillow.change(pillow.pairs, piece, pillow.patterns)
    return [DONE, len(piece)]


def work(pillow, acts):
    """Work acts behind the piece."""
    refusal = refusal_of_acts(pillow, acts)
    if refusal != DONE:
        return [refusal]
    if len(pillow.piece) + len(acts) > MOST_ACTS:
        return [FULL]
    return lay_piece(pillow, worked_behind(pillow.piece, acts))


def workby(pillow, name, times):
    """Work a pattern behind the piece, so many times."""
    pattern = pillow.pattern_under(name)
    if pattern is None:
        return [ABSENT]
    if len(pillow.piece) + len(pattern) * times > MOST_ACTS:
        return [FULL]
    return lay_piece(pillow, worked_behind(pillow.piece, pattern * times))


def back(pillow, acts):
    """Take acts back, the last ones of the piece."""
    refusal = refusal_of_acts(pillow, acts)
    if refusal != DONE:
        return [refusal]
    left = taken_back(pillow.piece, acts)
    if left is None:
        return [UNFIT]
    return lay_piece(pillow, left)


def mend(pillow, name):
    """Make the piece the pattern, and answer how many acts are undone for it, how many worked."""
    pattern = pillow.pattern_under(name)
    if pattern is None:
        return [ABSENT]
    common = len(common_beginning(pillow.piece, pattern))
    undone = len(pillow.piece) - common
    pillow.change(pillow.pairs, pattern, pillow.patterns)
    return [DONE, undone, len(pattern) - common]
