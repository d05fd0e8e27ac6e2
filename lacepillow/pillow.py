"""The pillow's calls, made one behind another on a new pillow."""

from lacepillow.callreading import read_calls
from lacepillow.limits import MOST_BYTES, MOST_PAIRS
from lacepillow.patterncalls import drop, keep, pins, put
from lacepillow.piececalls import back, mend, work, workby
from lacepillow.pillowbytes import NoPillow, read_pillow
from lacepillow.refusals import ABSENT, DONE, FAULTY, WRONG
from lacepillow.state import Pillow
from lacepillow.tellingcalls import check, save, tell_names, tell_next, tell_pairs, tell_pattern, tell_piece


def begin(pillow, pairs):
    """A new pillow, of so many pairs."""
    if not 1 <= pairs <= MOST_PAIRS:
        return [WRONG]
    pillow.renew(pairs)
    return [DONE]


def undo(pillow):
    """Undo the last change that isn't undone."""
    if len(pillow.past) == 0:
        return [ABSENT]
    pillow.undo_change()
    return [DONE]


def redo(pillow):
    """Redo the change that was undone last."""
    if len(pillow.undone) == 0:
        return [ABSENT]
    pillow.redo_change()
    return [DONE]


def load(pillow, codes):
    """The pillow that these bytes tell."""
    if len(codes) > MOST_BYTES:
        return [WRONG]
    try:
        loaded = read_pillow(codes)
    except NoPillow as e:
        return [FAULTY, e.place]
    pillow.change(loaded.pairs, loaded.piece, loaded.patterns)
    return [DONE]


def make_pattern_call(pillow, number, lists):
    """Make a call on the patterns, and give what it answers."""
    if number == 1:
        return put(pillow, lists[0], lists[1])
    if number == 2:
        return pins(pillow, lists[0], lists[1:])
    if number == 3:
        return keep(pillow, lists[0])
    return drop(pillow, lists[0])


def make_piece_call(pillow, number, numbers, lists):
    """Make a call on the piece, and give what it answers."""
    if number == 5:
        return work(pillow, lists[0])
    if number == 6:
        return workby(pillow, lists[0], numbers[0])
    if number == 7:
        return back(pillow, lists[0])
    return mend(pillow, lists[0])


def make_telling_call(pillow, number, lists):
    """Make a call that only tells, and give what it answers."""
    if number == 11:
        return tell_pairs(pillow)
    if number == 12:
        return tell_names(pillow)
    if number == 13:
        return tell_piece(pillow)
    if number == 14:
        return tell_pattern(pillow, lists[0])
    if number == 15:
        return check(pillow, lists[0])
    if number == 16:
        return tell_next(pillow, lists[0])
    return save(pillow)


def make_call(pillow, number, numbers, lists):
    """Make one call on the pillow, and give what it answers."""
    if number == 0:
        return begin(pillow, numbers[0])
    if number <= 4:
        return make_pattern_call(pillow, number, lists)
    if number <= 8:
        return make_piece_call(pillow, number, numbers, lists)
    if number == 9:
        return undo(pillow)
    if number == 10:
        return redo(pillow)
    if number <= 17:
        return make_telling_call(pillow, number, lists)
    return load(pillow, lists[0])


def answers(calls):
    """What the calls told in this list answer: for each how many numbers, then these."""
    pillow = Pillow()
    given = []
    for call in read_calls(calls):
        answer = make_call(pillow, call.number, call.numbers, call.lists)
        given.append(len(answer))
        given.extend(answer)
    return given
