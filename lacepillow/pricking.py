"""Prickings: the faults of their pins, and the acts that their full orders make."""

from lacepillow.laces import act_of_letter

FIRST_OF_PINS = 64
MOST_LETTERS = 11
STITCH_LETTERS = "clr"

NO_FAULT = 0
NO_END = 1
WRONG_STITCH = 2
END_TAKEN = 3


def left_end_of(pin):
    """The left end as it leaves the pin; the right one is the number behind it."""
    return FIRST_OF_PINS + 2 * pin


def is_end(end, pin, count, pairs):
    """Whether the number is an end that can come to the pin, one of so many."""
    if end < FIRST_OF_PINS:
        return end < pairs
    return end < left_end_of(count) and (end - FIRST_OF_PINS) // 2 != pin


def is_stitch(letters):
    """Whether the numbers are a stitch's letters."""
    return len(letters) <= MOST_LETTERS and all([letter < len(STITCH_LETTERS) for letter in letters])


def fault_of_pin(pricked, pin, pairs, taken):
    """The kind of the pin's fault; taken has the ends that come to pins before it."""
    left = pricked[pin][0]
    right = pricked[pin][1]
    if not is_end(left, pin, len(pricked), pairs) or not is_end(right, pin, len(pricked), pairs):
        return NO_END
    if not is_stitch(pricked[pin][2:]):
        return WRONG_STITCH
    if left == right or left in taken or right in taken:
        return END_TAKEN
    return NO_FAULT


def fault_of_pricking(pricked, pairs):
    """The first pin that has a fault and the fault's kind; nothing if it's a pricking."""
    taken = {}
    for pin in range(len(pricked)):
        kind = fault_of_pin(pricked, pin, pairs, taken)
        if kind != NO_FAULT:
            return [pin, kind]
        taken[pricked[pin][0]] = True
        taken[pricked[pin][1]] = True
    return []


def workable_pair(board, pricked, pin_of_left):
    """The left place of the board where some pin can be worked, or -1."""
    for pair in range(len(board) - 1):
        pin = pin_of_left.get(board[pair])
        if pin is not None and pricked[pin][1] == board[pair + 1]:
            return pair
    return -1


def acts_of_pin(told, pair):
    """The acts of a pin's stitch at this pair and the next one."""
    return [act_of_letter(STITCH_LETTERS[letter], pair) for letter in told[2:]]


def acts_of_pricking(pricked, pairs):
    """The acts of a full order, or None if some pin is in none.

    Pins that can be worked at one time share no end and so stay workable: every full order
    has the same pins and makes the same lace.
    """
    pin_of_left = dict([(told[0], pin) for pin, told in enumerate(pricked)])
    board = list(range(pairs))
    acts = []
    for turn in range(len(pricked)):
        pair = workable_pair(board, pricked, pin_of_left)
        if pair < 0:
            return None
        pin = pin_of_left[board[pair]]
        acts.extend(acts_of_pin(pricked[pin], pair))
        board[pair] = left_end_of(pin)
        board[pair + 1] = left_end_of(pin) + 1
    return acts
