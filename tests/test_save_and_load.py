"""save and load: saved and loaded it's the same, and a load is a change."""

import unittest

from helper import (
    back, begin, check, coming, drop, keep, last, lines, load, mend, names, pairs, pattern, piece, pins, put, redo, save,
    saved, told, undo, work, workby,
)

EIGHT = ("a", "ab", "abc", "b", "dot", "m", "zz", "zzzzzzzzzzzz")
FULL = saved(32, [k for k in range(32) for turn in range(16)], [(name, [94, 31] * 256) for name in (
    "aaaaaaaaaaaa", "baaaaaaaaaaa", "daaaaaaaaaaa", "eaaaaaaaaaaa", "faaaaaaaaaaa", "gaaaaaaaaaaa", "haaaaaaaaaaa",
    "iaaaaaaaaaaa")])


def of_size(size):
    """Bytes that begin as a pillow of no patterns and then go on, so many in all."""
    good = saved(2, [0, 64])
    return good + [0] * (size - len(good))


class Save(unittest.TestCase):
    def test_new_pillow(self):
        self.assertEqual(told(save()), [[0, 76, 67, 80, 49, 2, 0, 0, 0, 0, 0]])
        for n in (1, 17, 32):
            self.assertEqual(last(begin(n), save()), [0, 76, 67, 80, 49, n, 0, 0, 0, 0, 0])

    def test_numbers_as_they_stand(self):
        calls = [begin(3), work([65, 0]), keep("ab"), work([2]), keep("a")]
        self.assertEqual(last(*calls, back([0]), save()), [
            0, 76, 67, 80, 49, 3, 2, 2, 0, 0, 0, 65, 2,
            1, 97, 3, 0, 0, 0, 0, 65, 2,
            2, 97, 98, 2, 0, 0, 0, 0, 65,
        ])

    def test_patterns_in_order_of_names(self):
        rows = ("zz", "abc", "m", "a", "zzzzzzzzzzzz", "dot", "ab", "b")
        calls = []
        laid = {}
        for turn, name in enumerate(rows):
            calls += [keep(name), work([turn % 2])]
            laid[name] = sorted(k % 2 for k in range(turn))
        self.assertEqual(last(*calls, save()), [0] + saved(2, [0] * 4 + [1] * 4, [(name, laid[name]) for name in EIGHT]))

    def test_forms_are_saved(self):
        calls = [begin(4), work([66, 3, 64, 0]), put("a", lines("pairs 4", "twist 3 1", "twist 0 2")), pins("b", [[2, 3, 0, 2]])]
        self.assertEqual(last(*calls, save()), [0] + saved(4, [64, 0, 66, 3], [("a", [0, 0, 3]), ("b", [66, 3])]))

    def test_many_acts(self):
        for count, low, high in ((255, 255, 0), (256, 0, 1), (300, 44, 1), (511, 255, 1), (512, 0, 2)):
            expected = [0, 76, 67, 80, 49, 2, 0, low, high, 0, 0] + [64] * count
            self.assertEqual(last(work([64] * count), save()), expected)
            expected = [0, 76, 67, 80, 49, 2, 1, 0, 0, 0, 0, 1, 97, low, high, 0, 0] + [64] * count
            self.assertEqual(last(work([64] * count), keep("a"), back([64] * count), save()), expected)

    def test_behind_drop_undo_redo(self):
        calls = [work([0]), keep("b"), keep("a"), drop("b")]
        both = saved(2, [0], [("a", [0]), ("b", [0])])
        one = saved(2, [0], [("a", [0])])
        self.assertEqual(told(*calls, save(), undo(), save(), redo(), save())[4:], [[0] + one, [0], [0] + both, [0], [0] + one])

    def test_saving_changes_nothing(self):
        calls = [work([0]), keep("a"), undo()]
        self.assertEqual(told(*calls, save(), save(), redo(), undo(), undo(), undo())[5:], [[0], [0], [0], [-2]])


def all_told(names_of_patterns):
    """Every call that tells what a pillow has."""
    told_calls = [pairs(), names(), piece(), save()]
    for name in names_of_patterns:
        told_calls += [pattern(name), check(name), coming(name)]
    return told_calls


class Load(unittest.TestCase):
    def same_again(self, names_of_patterns, *calls):
        """What the pillow is behind these calls is told alike when it's saved and loaded on another one."""
        asked = all_told(names_of_patterns)
        before = told(*calls, *asked)[len(calls):]
        bytes_of_pillow = before[3][1:]
        for other in ([], [begin(7), work([6, 70]), keep("other")]):
            given = told(*other, load(bytes_of_pillow), *asked)[len(other):]
            self.assertEqual(given, [[0]] + before)
        self.assertEqual(told(*calls, load(bytes_of_pillow), *asked)[len(calls):], [[0]] + before)

    def test_saved_and_loaded_is_the_same(self):
        self.same_again([])
        self.same_again([], begin(1))
        self.same_again([], begin(32))
        self.same_again(["a"], begin(1), work([0] * 5), keep("a"), back([0, 0]))
        self.same_again(["a"], begin(32), work([94, 31, 0, 64, 30]), keep("a"), work([93, 30]))
        calls = [begin(5), put("a", lines("pairs 5", "let s = c t c", "repeat 4", "row s 0 2", "row s 1 3", "end"))]
        calls += [pins("ab", [[2, 3, 0, 1], [0, 1, 0, 2], [67, 64, 0]]), work([67, 3, 4, 64, 0]), keep("b"), workby("a", 2)]
        self.same_again(["a", "b", "ab"], *calls)
        self.same_again(["a", "b", "ab"], *calls, undo(), mend("ab"), drop("b"))
        self.same_again(EIGHT, *[keep(name) for name in reversed(EIGHT)], work([0, 64]))

    def test_512_acts(self):
        self.same_again(["p"], begin(3), work([2, 65, 0, 64] * 128), keep("p"), back([64]))
        self.same_again(["p"], work([0, 64] * 150), keep("p"))

    def test_fullest_pillow(self):
        self.assertEqual(len(FULL), 4754)
        given = told(load(FULL), save(), load(FULL + [0]))
        self.assertEqual(given, [[0], [0] + FULL, [-5, 4754]])

    def test_good_bytes(self):
        good = (saved(1, []), saved(32, []), saved(1, [0] * 512), saved(32, [31, 94, 31]), saved(2, [64, 0, 1, 64]),
                saved(3, [], [("a", []), ("aa", [2]), ("ab", []), ("b", [65, 2])]), saved(4, [3, 64, 0]),
                saved(2, [], [(name, [0]) for name in EIGHT]), saved(2, [0], [("pair", []), ("zzzzzzzzzzzz", [64])]))
        for bytes_of_pillow in good:
            self.assertEqual(told(load(bytes_of_pillow), save()), [[0], [0] + bytes_of_pillow])

    def test_other_pillow_is_gone(self):
        calls = [begin(4), work([3, 66]), keep("a"), keep("b"), load(saved(3, [2], [("b", [65])]))]
        self.assertEqual(told(*calls, pairs(), names(), piece(), pattern("a"), pattern("b"))[5:], [
            [0, 3], [0, 1, 98], [0, 2], [-2], [0, 65],
        ])

    def test_going_on_behind_a_load(self):
        calls = [load(saved(4, [3, 64, 0], [("a", [3, 64, 0, 66])]))]
        self.assertEqual(told(*calls, check("a"), coming("a"), work([66]), check("a"), back([0, 3, 66]), piece())[1:], [
            [0, 1, 3, 0, 1], [0, 66], [0, 4], [0, 1, 4, 0, 0], [0, 1], [0, 64],
        ])
        calls = [load(saved(2, [], [(name, [0]) for name in EIGHT])), keep("q"), drop("m"), keep("q"), keep("dot")]
        self.assertEqual(told(*calls)[1:], [[-9], [0], [0], [-3]])
        self.assertEqual(told(load(saved(2, [0] * 512)), work([0]), back([0]), work([64])), [[0], [-9], [0, 511], [0, 512]])

    def test_load_is_a_change(self):
        calls = [begin(4), work([3]), keep("a"), load(saved(9, [8], [("z", [])]))]
        before = saved(4, [3], [("a", [3])])
        behind = saved(9, [8], [("z", [])])
        given = told(*calls, save(), undo(), save(), redo(), save(), undo(), undo(), undo(), undo(), save(), pairs())
        self.assertEqual(given[4:], [
            [0] + behind, [0], [0] + before, [0], [0] + behind, [0], [0], [0], [-2], [0] + saved(4, []), [0, 4],
        ])

    def test_work_behind_a_load_undone(self):
        calls = [work([0]), load(saved(9, [8])), work([8]), undo(), piece(), undo(), piece(), redo(), redo(), piece(), pairs()]
        self.assertEqual(told(*calls)[3:], [[0], [0, 8], [0], [0, 0], [0], [0], [0, 8, 8], [0, 9]])

    def test_load_of_the_same_is_a_change_too(self):
        self.assertEqual(told(load(saved(2, [])), undo(), undo(), redo(), redo()), [[0], [0], [-2], [0], [-2]])

    def test_load_leaves_nothing_else_to_redo(self):
        given = told(work([0]), work([64]), undo(), load(saved(3, [2])), redo(), undo(), piece(), redo(), piece(), redo())
        self.assertEqual(given[2:], [[0], [0], [-2], [0], [0, 0], [0], [0, 2], [-2]])

    def test_sixteen_loads(self):
        loads = [load(saved(1 + k, [k])) for k in range(17)]
        given = told(*loads, *[undo()] * 17, pairs(), piece(), *[redo()] * 17, pairs(), piece())
        self.assertEqual(given, [[0]] * 33 + [[-2], [0, 1], [0, 0]] + [[0]] * 16 + [[-2], [0, 17], [0, 16]])

    def test_refused_leaves_all_as_it_was(self):
        wrong = ([], [0], saved(3, [2])[:-1], saved(3, [2]) + [0], saved(0, []), saved(33, []), saved(3, [3]), saved(3, [2, 0]),
                 saved(3, [], [("end", [])]), saved(3, [2], [("a", [2]), ("a", [])]), of_size(16384), of_size(16385))
        for bytes_of_pillow in wrong:
            calls = [begin(4), work([3]), keep("k"), work([66]), work([0]), undo(), undo()]
            given = told(*calls, save(), load(bytes_of_pillow), save(), redo(), redo(), redo(), piece(), *[undo()] * 5)
            self.assertLess(given[8][0], 0)
            self.assertEqual(given[7], [0] + saved(4, [3], [("k", [3])]))
            self.assertEqual(given[9], given[7])
            self.assertEqual(given[10:], [[0], [0], [-2], [0, 0, 3, 66]] + [[0]] * 4 + [[-2]])

    def test_16384_and_16385_bytes(self):
        place = len(saved(2, [0, 64]))
        for size, expected in ((16383, [-5, place]), (16384, [-5, place]), (16385, [-1]), (17000, [-1])):
            self.assertEqual(told(load(of_size(size))), [expected])
        self.assertEqual(told(load([0] * 16384)), [[-5, 0]])
        self.assertEqual(told(load([76] * 16384)), [[-5, 1]])
        self.assertEqual(told(load([0] * 16385)), [[-1]])
        self.assertEqual(told(load(saved(0, []) + [0] * 16375)), [[-1]])
