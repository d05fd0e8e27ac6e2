"""Whole sessions of calls of every kind, against a pillow that is kept in another way."""

import unittest

from helper import (
    back, begin, can_be_first, check, coming, codes, drop, first_working, flat, keep, lines, load, mend, names, pairs, pattern,
    piece, pins, places, put, redo, save, saved, told, undo, work, workby,
)

NAMES = ("a", "ab", "abc", "b", "ba", "dot", "e", "f", "ground", "zigzag")


class Dice:
    """Numbers that look as if thrown, and are the same each time."""

    def __init__(self, seed):
        self.state = seed

    def below(self, most):
        self.state = (self.state * 6364136223846793005 + 1442695040888963407) % 2 ** 64
        return (self.state >> 33) % most

    def one_of(self, rows):
        return rows[self.below(len(rows))]


def parted(one, other):
    """How many acts two workings have in common at their beginnings, and what's left of each."""
    one, other = list(one), list(other)
    common = 0
    while True:
        shared = {one[k] for k in can_be_first(one)} & {other[k] for k in can_be_first(other)}
        if not shared:
            return common, one, other
        # An act touches itself, so the first of its kind is the one that can be first.
        one.remove(max(shared))
        other.remove(max(shared))
        common += 1


def without_last(acts, act):
    """The working without this act, if it can be brought to the end; else None."""
    rest = list(acts)
    for k in range(len(rest) - 1, -1, -1):
        if rest[k] == act:
            return rest[:k] + rest[k + 1:]
        if places(rest[k]) & places(act):
            return None
    return None


class Kept:
    """A pillow by the words: workings as they were worked, and all that ever was as a list of states."""

    def __init__(self, n):
        self.states = [(n, (), {})]
        self.at = 0
        self.first = 0

    def now(self):
        return self.states[self.at]

    def change(self, n, acts, patterns):
        self.states = self.states[:self.at + 1] + [(n, tuple(acts), dict(patterns))]
        self.at += 1
        self.first = max(self.first, self.at - 16)

    def saved(self):
        n, acts, patterns = self.now()
        return saved(n, first_working(acts), [(name, first_working(patterns[name])) for name in sorted(patterns)])


def some_acts(dice, n, most):
    acts = list(range(n)) + list(range(64, 63 + n))
    return [dice.one_of(acts) for turn in range(dice.below(most + 1))]


def laying(dice, kept):
    """put, pins or keep: the call and what it answers."""
    n, acts, patterns = kept.now()
    name = dice.one_of(NAMES)
    kind = dice.below(3)
    if kind == 0:
        laid = some_acts(dice, n, 9)
        made = put(name, lines("pairs %d" % n, *[
            "twist %d 1" % act if act < 64 else "cross %d 1" % (act - 64) for act in laid]))
    elif kind == 1 and n > 1:
        left = dice.below(n - 1)
        letters = [dice.below(3) for turn in range(dice.below(12))]
        laid = [(64 + left, left, left + 1)[letter] for letter in letters]
        made = pins(name, [[left, left + 1] + letters])
    else:
        laid = acts
        made = keep(name)
    if name in patterns:
        return made, [-3]
    if len(patterns) >= 8:
        return made, [-9]
    kept.change(n, acts, {**patterns, name: tuple(laid)})
    return made, [0]


def on_the_piece(dice, kept):
    """work or back: the call and what it answers."""
    n, acts, patterns = kept.now()
    if dice.below(3) > 0:
        more = some_acts(dice, n, 12)
        if len(acts) + len(more) > 512:
            return work(more), [-9]
        kept.change(n, list(acts) + more, patterns)
        return work(more), [0, len(acts) + len(more)]
    rest = list(acts)
    taken = []
    for turn in range(dice.below(6)):
        ends = [act for act in sorted(set(rest)) if without_last(rest, act) is not None]
        if ends:
            taken.insert(0, dice.one_of(ends))
            rest = without_last(rest, taken[0])
    if dice.below(4) == 0:
        for act in range(n):
            if without_last(rest, act) is None:
                return back([act] + taken), [-6]
    kept.change(n, rest, patterns)
    return back(taken), [0, len(rest)]


def by_a_pattern(dice, kept):
    """drop, workby, mend, pattern, check or next: the call and what it answers."""
    n, acts, patterns = kept.now()
    name = dice.one_of(sorted(patterns) * 3 + ["none"])
    times = dice.below(4)
    kind = dice.one_of("dwmmpccnnn")
    made = {"d": drop(name), "w": workby(name, times), "m": mend(name), "p": pattern(name), "c": check(name),
            "n": coming(name)}[kind]
    if name not in patterns:
        return made, [-2]
    common, mistake, rest = parted(acts, patterns[name])
    if kind == "d":
        kept.change(n, acts, {one: laid for one, laid in patterns.items() if one != name})
        return made, [0]
    if kind == "w":
        whole = list(acts) + list(patterns[name]) * times
        if len(whole) > 512:
            return made, [-9]
        kept.change(n, whole, patterns)
        return made, [0, len(whole)]
    if kind == "m":
        kept.change(n, patterns[name], patterns)
        return made, [0, len(mistake), len(rest)]
    if kind == "p":
        return made, [0] + first_working(patterns[name])
    if kind == "c":
        return made, [0, 0 if mistake else 1, common, len(mistake), len(rest)]
    return made, [-6] if mistake else [0] + sorted(rest[k] for k in can_be_first(rest))


def on_the_whole(dice, kept, saves):
    """undo, redo, pairs, names, piece, save or load: the call and what it answers."""
    kind = dice.one_of("uuuurrrrkbpsl")
    if kind == "u":
        if kept.at == kept.first:
            return undo(), [-2]
        kept.at -= 1
        return undo(), [0]
    if kind == "r":
        if kept.at + 1 == len(kept.states):
            return redo(), [-2]
        kept.at += 1
        return redo(), [0]
    n, acts, patterns = kept.now()
    if kind == "k":
        return pairs(), [0, n]
    if kind == "b":
        return names(), [0] + flat([[len(name)] + codes(name) for name in sorted(patterns)])
    if kind == "p":
        return piece(), [0] + first_working(acts)
    if kind == "s" or not saves:
        saves.append((kept.saved(), kept.now()))
        return save(), [0] + kept.saved()
    laid, state = dice.one_of(saves)
    if dice.below(4) == 0:
        cut = dice.below(len(laid))
        return load(laid[:cut]), [-5, cut]
    kept.change(*state)
    return load(laid), [0]


class Sessions(unittest.TestCase):
    def session(self, seed):
        dice = Dice(seed)
        n = 1 + dice.below(6)
        kept = Kept(n)
        calls, expected, saves = [begin(n)], [[0]], []
        while len(calls) < 58:
            kind = dice.one_of("lppbbbww")
            if kind == "l":
                made, answer = laying(dice, kept)
            elif kind == "p":
                made, answer = on_the_piece(dice, kept)
            elif kind == "b":
                made, answer = by_a_pattern(dice, kept)
            else:
                made, answer = on_the_whole(dice, kept, saves)
            calls.append(made)
            expected.append(answer)
        calls += [piece(), save()]
        expected += [[0] + first_working(kept.now()[1]), [0] + kept.saved()]
        self.assertLessEqual(len(flat(calls)), 31000)
        self.assertEqual(told(*calls), expected, seed)
        return [(made[0], answer[0]) for made, answer in zip(calls, expected)]

    def test_sessions(self):
        met = set()
        for seed in range(300):
            met.update(self.session(seed))
        for number in range(19):
            self.assertIn((number, 0), met)
        for refused in ((6, -2), (7, -6), (9, -2), (10, -2), (14, -2), (15, -2), (16, -2), (16, -6), (18, -5), (1, -3), (3, -3)):
            self.assertIn(refused, met)
