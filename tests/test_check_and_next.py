"""check and next: how far the piece agrees with a pattern, and how it can go on by it."""

import itertools
import unittest

from helper import (
    NO_NAMES, back, begin, can_be_first, check, coming, drop, keep, last, load, mend, pattern, piece, pins, put, redo,
    same_laces, save, saved, told, undo, work, workby,
)


def laid(n, acts, pattern_acts):
    """A pillow of this piece, with this pattern under the name p."""
    return [begin(n), work(pattern_acts), keep("p"), back(pattern_acts), work(acts)]


def beginnings(acts):
    """Every beginning of the lace, by the words: what stands first in a working that is this lace."""
    return {one[:k] for one in same_laces(acts) for k in range(len(one) + 1)}


def small_laces(acts, longest):
    """A working of each lace of at most so many of these acts."""
    found = {}
    for size in range(longest + 1):
        for one in itertools.product(acts, repeat=size):
            found.setdefault(min(same_laces(one)), one)
    return list(found.values())


class Check(unittest.TestCase):
    def checked(self, n, acts, pattern_acts):
        given = last(*laid(n, acts, pattern_acts), check("p"))
        self.assertEqual(given[0], 0)
        self.assertEqual(len(given), 5)
        self.assertEqual(given[2] + given[3], len(acts))
        self.assertEqual(given[2] + given[4], len(pattern_acts))
        return given[1:]

    def test_right(self):
        self.assertEqual(self.checked(2, [0, 64], [0, 64, 1, 1]), [1, 2, 0, 2])
        self.assertEqual(self.checked(2, [0, 64, 1], [0, 64, 1]), [1, 3, 0, 0])
        self.assertEqual(self.checked(4, [3], [0, 1, 2, 3]), [1, 1, 0, 3])

    def test_not_right(self):
        self.assertEqual(self.checked(2, [0, 64, 1, 1], [0, 64]), [0, 2, 2, 0])
        self.assertEqual(self.checked(2, [0, 64, 1, 0], [0, 64, 1, 1]), [0, 3, 1, 1])
        self.assertEqual(self.checked(2, [0, 64, 1], [64, 1, 0]), [0, 0, 3, 3])

    def test_no_acts(self):
        self.assertEqual(self.checked(2, [], []), [1, 0, 0, 0])
        self.assertEqual(self.checked(2, [], [0, 64, 1]), [1, 0, 0, 3])
        self.assertEqual(self.checked(2, [0, 64, 1], []), [0, 0, 3, 0])

    def test_same_lace_in_another_order(self):
        self.assertEqual(self.checked(4, [66, 3, 64, 0, 65], [64, 66, 0, 3, 65]), [1, 5, 0, 0])
        self.assertEqual(self.checked(4, [3, 1, 2, 0], [0, 1, 2, 3]), [1, 4, 0, 0])
        self.assertEqual(self.checked(3, [2, 0] * 256, [0] * 256 + [2] * 256), [1, 512, 0, 0])

    def test_common_beginning_that_is_no_beginning_of_either_form(self):
        # The forms are 0 2 65 and 1 2 64: the common beginning is 2 alone.
        self.assertEqual(self.checked(3, [0, 2, 65], [1, 2, 64]), [0, 1, 2, 2])
        # Of 0 0 3 66 and 1 3 66 it's 3 66.
        self.assertEqual(self.checked(4, [0, 0, 3, 66], [1, 3, 66]), [0, 2, 2, 1])
        # Of 0 3 and 3 64 0 it's 3, of the second form the first act, of the first form the last.
        self.assertEqual(self.checked(4, [0, 3], [64, 0, 3]), [0, 1, 1, 2])

    def test_what_is_held_up_holds_up_what_touches_it(self):
        self.assertEqual(self.checked(4, [0, 64, 3, 66, 3], [64, 0, 3, 66, 3]), [0, 3, 2, 2])
        self.assertEqual(self.checked(4, [0, 64, 3, 1, 3], [64, 0, 3, 1, 3]), [0, 2, 3, 3])
        self.assertEqual(self.checked(2, [0, 64, 64, 64], [0, 0, 64, 64, 64]), [0, 1, 3, 4])

    def test_512_acts(self):
        self.assertEqual(self.checked(2, [0, 64] * 256, [0, 64] * 256), [1, 512, 0, 0])
        self.assertEqual(self.checked(2, [0, 64] * 255 + [0, 0], [0, 64] * 256), [0, 511, 1, 1])
        self.assertEqual(self.checked(2, [0] * 512, [64] * 512), [0, 0, 512, 512])
        self.assertEqual(self.checked(32, list(range(32)) * 8, list(range(31, -1, -1)) * 16), [1, 256, 0, 256])

    def test_small_laces_by_the_words(self):
        for n, laces in ((2, small_laces((0, 1, 64), 3)), (3, small_laces((0, 2, 64, 65), 3))):
            begun = {acts: beginnings(acts) for acts in laces}
            for one, other in itertools.product(laces, laces):
                common = max(len(acts) for acts in begun[one] & begun[other])
                right = 1 if tuple(one) in begun[other] else 0
                self.assertEqual(self.checked(n, one, other), [right, common, len(one) - common, len(other) - common])

    def test_behind_other_calls(self):
        calls = [put("p", "pairs 2\ndo 0 c t c\n")]
        self.assertEqual(last(*calls, work([64, 1]), check("p")), [0, 1, 2, 0, 2])
        self.assertEqual(last(*calls, work([64, 1]), undo(), check("p")), [0, 1, 0, 0, 4])
        self.assertEqual(last(*calls, work([64, 1]), undo(), redo(), check("p")), [0, 1, 2, 0, 2])
        self.assertEqual(last(*calls, workby("p", 2), check("p")), [0, 0, 4, 4, 0])
        self.assertEqual(last(*calls, work([0]), mend("p"), check("p")), [0, 1, 4, 0, 0])
        self.assertEqual(last(pins("q", [[0, 1, 0, 2]]), work([1]), check("q")), [0, 0, 0, 1, 2])
        self.assertEqual(last(load(saved(3, [0, 2], [("q", [2, 65])])), check("q")), [0, 0, 1, 1, 1])

    def test_no_pattern(self):
        for name in ("a", "", "p", "pqr", "PQ", [255] * 40) + NO_NAMES:
            self.assertEqual(told(keep("pq"), check(name)), [[0], [-2]])
        self.assertEqual(told(keep("p"), drop("p"), check("p"), undo(), check("p")), [[0], [0], [-2], [0], [0, 1, 0, 0, 0]])

    def test_check_and_mend_agree(self):
        for one, other in (([0, 2, 65], [1, 2, 64]), ([64, 0, 1], [64, 1, 64]), ([], [65]), ([2, 65], [65, 2])):
            calls = laid(3, one, other)
            self.assertEqual(last(*calls, check("p"))[3:], last(*calls, mend("p"))[1:])


class Next(unittest.TestCase):
    def told_next(self, n, acts, pattern_acts):
        return last(*laid(n, acts, pattern_acts), coming("p"))

    def test_one_act(self):
        self.assertEqual(self.told_next(2, [], [0, 64, 1]), [0, 0])
        self.assertEqual(self.told_next(2, [0], [0, 64, 1]), [0, 64])
        self.assertEqual(self.told_next(2, [0, 64], [0, 64, 1]), [0, 1])

    def test_none_if_it_is_the_pattern(self):
        self.assertEqual(self.told_next(2, [0, 64, 1], [0, 64, 1]), [0])
        self.assertEqual(self.told_next(4, [66, 3, 64, 0], [64, 66, 0, 3]), [0])
        self.assertEqual(self.told_next(2, [], []), [0])
        self.assertEqual(self.told_next(2, [0, 64] * 256, [0, 64] * 256), [0])

    def test_acts_that_do_not_touch_each_of_them_rising(self):
        self.assertEqual(self.told_next(4, [], [3, 1, 2, 0]), [0, 0, 1, 2, 3])
        self.assertEqual(self.told_next(4, [2], [3, 1, 2, 0]), [0, 0, 1, 3])
        self.assertEqual(self.told_next(4, [], [66, 0, 2]), [0, 0, 66])
        self.assertEqual(self.told_next(4, [66], [66, 0, 2]), [0, 0, 2])
        self.assertEqual(self.told_next(4, [], [66, 64, 1, 65]), [0, 64, 66])
        self.assertEqual(self.told_next(32, [], list(range(94, 63, -1))), [0] + list(range(64, 95)))
        self.assertEqual(self.told_next(32, [], list(range(31, -1, -1)) * 16), [0] + list(range(32)))

    def test_rising_though_the_form_tells_them_otherwise(self):
        # The form is 3 64 0; behind 64 what's left is 3 and 0.
        self.assertEqual(self.told_next(4, [64], [64, 0, 3]), [0, 0, 3])
        self.assertEqual(self.told_next(6, [64, 66], [5, 64, 66, 2, 0, 4]), [0, 0, 2, 4, 5])

    def test_same_act_told_once(self):
        self.assertEqual(self.told_next(2, [], [0] * 512), [0, 0])
        self.assertEqual(self.told_next(2, [0] * 100, [0] * 512), [0, 0])
        self.assertEqual(self.told_next(3, [0], [0, 2, 0, 2]), [0, 0, 2])

    def test_act_of_the_pattern_that_has_to_wait(self):
        self.assertEqual(self.told_next(3, [], [64, 0, 1, 65]), [0, 64])
        self.assertEqual(self.told_next(3, [64], [64, 0, 1, 65]), [0, 0, 1])
        self.assertEqual(self.told_next(3, [64, 0], [64, 0, 1, 65]), [0, 1])
        self.assertEqual(self.told_next(3, [64, 1], [64, 0, 1, 65]), [0, 0, 65])

    def test_not_right(self):
        self.assertEqual(self.told_next(2, [0], []), [-6])
        self.assertEqual(self.told_next(2, [1], [64, 1]), [-6])
        self.assertEqual(self.told_next(2, [0, 64, 1, 1], [0, 64, 1]), [-6])
        self.assertEqual(self.told_next(4, [0, 3], [3, 64, 0]), [-6])
        self.assertEqual(self.told_next(4, [3, 0], [0, 2]), [-6])

    def test_no_pattern_before_not_right(self):
        self.assertEqual(told(work([0]), coming("a")), [[0, 1], [-2]])
        self.assertEqual(told(keep("p"), work([0]), coming("p"), coming("a"), drop("p"), coming("p")), [
            [0], [0, 1], [-6], [-2], [0], [-2],
        ])
        for name in ("a", "", "p", "pqr", "PQ", [255] * 40) + NO_NAMES:
            self.assertEqual(told(keep("pq"), work([1]), coming(name))[2:], [[-2]])
            self.assertEqual(told(keep("pq"), coming(name))[1:], [[-2]])

    def test_just_the_acts_with_which_the_piece_stays_right(self):
        acts = (0, 1, 2, 64, 65)
        laces = small_laces((0, 2, 64, 65), 3)
        for one, other in itertools.product(laces, laces):
            calls = laid(3, one, other)
            given = last(*calls, coming("p"))
            if last(*calls, check("p"))[1] == 0:
                self.assertEqual(given, [-6])
            else:
                right = [act for act in acts if last(*calls, work([act]), check("p"))[1] == 1]
                self.assertEqual(given, [0] + right)
                self.assertEqual(right == [], min(same_laces(one)) == min(same_laces(other)))

    def test_by_the_words(self):
        for n, laces in ((2, small_laces((0, 1, 64), 3)), (3, small_laces((0, 2, 64, 65), 3))):
            acts = list(range(n)) + list(range(64, 63 + n))
            begun = {acts: beginnings(acts) for acts in laces}
            for one, other in itertools.product(laces, laces):
                right = tuple(one) in begun[other]
                expected = [0] + [act for act in acts if tuple(one) + (act,) in begun[other]] if right else [-6]
                self.assertEqual(self.told_next(n, one, other), expected)

    def test_a_pattern_worked_by_what_next_tells(self):
        acts = [66, 3, 64, 0, 65, 2, 1, 66, 64, 1, 3]
        rest = list(acts)
        calls = [begin(4), work(acts), keep("p"), back(acts)]
        turn = 0
        while rest:
            firsts = can_be_first(rest)
            self.assertEqual(last(*calls, coming("p")), [0] + sorted(rest[k] for k in firsts))
            taken = rest.pop(firsts[turn % len(firsts)])
            calls.append(work([taken]))
            turn += 1
        self.assertEqual(told(*calls, coming("p"), check("p"))[-2:], [[0], [0, 1, len(acts), 0, 0]])

    def test_telling_changes_nothing(self):
        calls = laid(3, [0, 2], [2, 0, 65])
        given = told(*calls, save(), check("p"), coming("p"), piece(), pattern("p"), save(), undo(), undo(), piece())
        self.assertEqual(given[5], given[10])
        self.assertEqual(given[6:10], [[0, 1, 2, 0, 1], [0, 65], [0, 0, 2], [0, 0, 2, 65]])
        self.assertEqual(given[11:], [[0], [0], [0, 0, 2, 65]])
