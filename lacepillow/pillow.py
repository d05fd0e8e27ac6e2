"""The pillow's calls, made one behind another on a new pillow."""

from lacepillow.callreading import read_calls
from lacepillow.limits import MOST_PAIRS
from lacepillow.patterncalls import drop, keep, pins, put
from lacepillow.piececalls import back, mend, work, workby
from lacepillow.refusals import ABSENT, DONE, WRONG
from lacepillow.state import Pillow


def begin(pillow, pairs):
    """A new pillow, of so many pairs."""
    if not 1 <= pairs <= MOST_PAIRS:
        return [WRONG]
    pillow.renew(pairs)
    return [DONE]


def undo(pillow):
    """Undo the last change that isn't undone."""
    if len(pillow.past) == 0:
        return [ABSENT]
    pillow.take_back_change()
    return [DONE]


def make_call(pillow, number, numbers, lists):
    """Make one call on the pillow, and give what it answers."""
    if number == 0:
        return begin(pillow, numbers[0])
    if number == 1:
        return put(pillow, lists[0], lists[1])
    if number == 2:
        return pins(pillow, lists[0], lists[1:])
    if number == 3:
        return keep(pillow, lists[0])
    if number == 4:
        return drop(pillow, lists[0])
    if number == 5:
        return work(pillow, lists[0])
    if number == 6:
        return workby(pillow, lists[0], numbers[0])
    if number == 7:
        return back(pillow, lists[0])
    if number == 8:
        return mend(pillow, lists[0])
    if number == 9:
        return undo(pillow)
    # The calls from 10 on aren't written yet: no number at all can't be taken for an answer.
    return []


def answers(calls):
    """What the calls told in this list answer: for each how many numbers, then these."""
    pillow = Pillow()
    given = []
    for call in read_calls(calls):
        answer = make_call(pillow, call.number, call.numbers, call.lists)
        given.append(len(answer))
        given.extend(answer)
    return given
