"""Workings and laces: lists of acts, and what makes two of them the same lace.

A lace is kept as its form, so two laces are the same if their lists are equal.
"""

FIRST_CROSS = 64
MOST_PLACES = 64


def is_act(act, pairs):
    """Whether the number is an act of so many pairs."""
    return 0 <= act < pairs or FIRST_CROSS <= act < FIRST_CROSS + pairs - 1


def act_of_letter(letter, pair):
    """The act of a stitch's letter (c, l or r) at this pair and the next one."""
    if letter == "c":
        return FIRST_CROSS + pair
    if letter == "l":
        return pair
    return pair + 1


def left_place(act):
    """The left one of the two places of an act; the other one is next to it."""
    if act < FIRST_CROSS:
        return 2 * act
    return 2 * (act - FIRST_CROSS) + 1


def touch(one, other):
    """Whether two acts have a place in common."""
    return abs(left_place(one) - left_place(other)) <= 1


def last_touching(acts, act):
    """Where the last of the acts that touches this one stands, or -1."""
    for place in range(len(acts) - 1, -1, -1):
        if touch(acts[place], act):
            return place
    return -1


def place_in_form(lace, act):
    """Where an act worked behind a lace comes to stand in the form of both.

    Nothing stands behind the new act in the lace, so all others keep their order: it only
    goes ahead of the first greater one that it can be changed about with.
    """
    for place in range(last_touching(lace, act) + 1, len(lace)):
        if lace[place] > act:
            return place
    return len(lace)


def worked_behind(lace, acts):
    """The lace with these acts worked behind it."""
    whole = list(lace)
    for act in acts:
        whole.insert(place_in_form(whole, act), act)
    return whole


def form(acts):
    """The lace that a working is."""
    return worked_behind([], acts)


def taken_back(lace, acts):
    """The lace behind which these acts make this lace, or None if there is none."""
    left = list(lace)
    for act in reversed(acts):
        place = last_touching(left, act)
        if place < 0 or left[place] != act:
            return None
        left.pop(place)
    return left


def last_first_by_place(lace):
    """The acts that have each place, the last first."""
    by_place = [[] for place in range(MOST_PLACES)]
    for act in reversed(lace):
        by_place[left_place(act)].append(act)
        by_place[left_place(act) + 1].append(act)
    return by_place


def common_beginning(one, other):
    """The longest working that is a beginning of both laces.

    One walk is enough: what holds an act up in the other lace could only be taken behind it.
    """
    rest = last_first_by_place(other)
    common = []
    for act in one:
        left = rest[left_place(act)]
        right = rest[left_place(act) + 1]
        if left[-1:] == [act] and right[-1:] == [act]:
            common.append(act)
            left.pop()
            right.pop()
        else:
            # Whatever touches an act that is held up is held up with it.
            left.clear()
            right.clear()
    return common


def left_behind(lace, beginning):
    """The acts left of a lace behind a beginning of it.

    An act touches itself, so what the beginning has of an act are the lace's first ones of it.
    """
    gone = {}
    for act in beginning:
        gone[act] = gone.get(act, 0) + 1
    left = []
    for act in lace:
        if gone.get(act, 0) > 0:
            gone[act] = gone[act] - 1
        else:
            left.append(act)
    return left


def first_acts(acts):
    """The acts, rising, that can stand first in the lace of a working."""
    held = {}
    firsts = []
    for act in acts:
        left = left_place(act)
        if left not in held and left + 1 not in held:
            firsts.append(act)
        held[left] = True
        held[left + 1] = True
    return sorted(firsts)
