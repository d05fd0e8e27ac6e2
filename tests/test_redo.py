"""redo: what's undone is redone, the last undone first, till the next change."""

import unittest

from helper import (
    back, begin, check, coming, drop, keep, last, load, mend, names, pairs, pattern, piece, pins, put, redo, save, saved,
    told, undo, work, workby,
)

TEXT = "pairs 2\ndo 0 c\n"
START = [begin(2), work([0, 64]), put("a", TEXT)]
OTHER = saved(5, [4, 67, 4], [("b", [67]), ("z", [])])
CHANGES = (
    put("b", TEXT), pins("b", [[0, 1, 0]]), keep("b"), drop("a"), work([1]), workby("a", 3), back([64]), mend("a"),
    load(OTHER),
)
SAME_AS_BEFORE = (
    work([]), workby("a", 0), back([]), load(saved(2, [0, 64], [("a", [64])])),
)
REFUSED = (
    begin(0), begin(33), put("c", TEXT), put("a", TEXT), put("b", "x"), put("b", "pairs 3\n"),
    put("b", "pairs 2\ntwist 0 513\n"), pins("", []), pins("a", []), pins("b", [[0, 1]] * 65), pins("b", [[0, 0]]),
    pins("b", [[1, 0]]), keep("a"), keep("end"), drop("b"), work([0] * 513), work([2]), work([0] * 511), workby("b", 1),
    workby("a", 511), back([0] * 513), back([2]), back([1]), mend("b"), pattern("b"), check("b"), coming("b"), coming("a"),
    load([]), load([0] * 16385), load(OTHER[:-1]), load(OTHER + [0]), load(saved(2, [1, 0])),
)
TELLING = (pairs(), names(), piece(), pattern("a"), check("a"), save())


class Redo(unittest.TestCase):
    def test_nothing_to(self):
        self.assertEqual(told(redo(), redo()), [[-2], [-2]])
        self.assertEqual(told(work([0]), redo(), piece(), undo(), undo()), [[0, 1], [-2], [0, 0], [0], [-2]])
        self.assertEqual(told(work([0]), undo(), redo(), redo(), piece()), [[0, 1], [0], [0], [-2], [0, 0]])

    def test_refused_leaves_all_as_it_was(self):
        given = told(work([0]), keep("a"), save(), redo(), save(), undo(), redo(), redo(), save(), undo(), undo(), undo())
        self.assertEqual(given[3], [-2])
        self.assertEqual(given[4], given[2])
        self.assertEqual(given[5:8], [[0], [0], [-2]])
        self.assertEqual(given[8], given[2])
        self.assertEqual(given[9:], [[0], [0], [-2]])

    def test_every_change_undone_and_redone_and_undone_again(self):
        for change in CHANGES + SAME_AS_BEFORE + (mend("a"), load(saved(1, []))):
            given = told(*START, save(), change, save(), undo(), save(), redo(), save(), undo(), save(), redo(), save())
            self.assertEqual(given[4][0], 0)
            before, behind = given[3], given[5]
            self.assertEqual(given[6:], [[0], before, [0], behind, [0], before, [0], behind])
            if change in CHANGES:
                self.assertNotEqual(before, behind)

    def test_redo_answers_nothing_else(self):
        for change in CHANGES:
            self.assertEqual(told(*START, change, undo(), redo())[4:], [[0], [0]])

    def test_last_undone_first(self):
        calls = [begin(3), work([0]), work([64]), keep("a"), work([1])]
        self.assertEqual(told(*calls, undo(), undo(), undo(), undo(), redo(), piece())[5:], [[0]] * 5 + [[0, 0]])
        given = told(*calls, *[undo()] * 4, redo(), piece(), redo(), piece(), names(), redo(), names(), piece(), redo(),
                     piece(), redo())
        self.assertEqual(given[9:], [
            [0], [0, 0], [0], [0, 0, 64], [0], [0], [0, 1, 97], [0, 0, 64], [0], [0, 0, 64, 1], [-2],
        ])

    def test_some_undone_and_some_of_them_redone(self):
        calls = [work([0]), work([64]), work([1]), work([64, 64]), undo(), undo(), undo(), redo()]
        self.assertEqual(last(*calls, piece()), [0, 0, 64])
        self.assertEqual(last(*calls, redo(), piece()), [0, 0, 64, 1])
        self.assertEqual(last(*calls, redo(), redo(), piece()), [0, 0, 64, 1, 64, 64])
        self.assertEqual(last(*calls, redo(), redo(), redo()), [-2])
        self.assertEqual(last(*calls, undo(), piece()), [0, 0])
        self.assertEqual(last(*calls, undo(), undo(), piece()), [0])
        self.assertEqual(last(*calls, undo(), undo(), undo()), [-2])

    def test_change_leaves_nothing_to_redo(self):
        for change in CHANGES + SAME_AS_BEFORE + (mend("a"),):
            given = told(*START, work([1]), undo(), change, save(), redo(), save(), undo(), piece())
            self.assertEqual(given[5][0], 0)
            self.assertEqual(given[7], [-2])
            self.assertEqual(given[6], given[8])
            self.assertEqual(given[9:], [[0], [0, 0, 64]])

    def test_change_behind_several_undos_and_a_redo(self):
        calls = [work([0]), work([64]), work([1]), undo(), undo(), redo(), work([0])]
        self.assertEqual(told(*calls, redo(), piece(), undo(), piece(), undo(), piece(), undo(), undo())[7:], [
            [-2], [0, 0, 64, 0], [0], [0, 0, 64], [0], [0, 0], [0], [-2],
        ])
        self.assertEqual(told(*calls, undo(), redo(), piece(), redo())[7:], [[0], [0], [0, 0, 64, 0], [-2]])

    def test_refused_call_leaves_what_is_to_redo(self):
        for call in REFUSED:
            given = told(*START, work([1]), work([64]), undo(), undo(), call, save(), redo(), redo(), redo(), piece())
            self.assertLess(given[7][0], 0, call)
            self.assertEqual(given[8], [0] + saved(2, [0, 64], [("a", [64])]))
            self.assertEqual(given[9:], [[0], [0], [-2], [0, 0, 64, 1, 64]])

    def test_refused_undo_leaves_what_is_to_redo(self):
        given = told(work([0]), undo(), undo(), undo(), redo(), piece(), redo())
        self.assertEqual(given[1:], [[0], [-2], [-2], [0], [0, 0], [-2]])

    def test_call_that_only_tells_leaves_what_is_to_redo(self):
        for call in TELLING:
            given = told(*START, work([1]), undo(), call, call, redo(), piece(), undo(), undo(), undo(), undo())
            self.assertEqual(given[5], given[6])
            self.assertEqual(given[5][0], 0)
            self.assertEqual(given[7:], [[0], [0, 0, 64, 1], [0], [0], [0], [-2]])
        given = told(put("a", TEXT), keep("b"), undo(), coming("a"), redo(), names())
        self.assertEqual(given[3:], [[0, 64], [0], [0, 1, 97, 1, 98]])

    def test_begin_leaves_nothing_to_redo(self):
        self.assertEqual(told(work([0]), undo(), begin(2), redo(), undo(), piece())[2:], [[0], [-2], [-2], [0]])
        self.assertEqual(told(work([0]), work([1]), undo(), begin(3), redo(), undo(), work([2]), undo(), redo(), piece())[3:], [
            [0], [-2], [-2], [0, 1], [0], [0], [0, 2],
        ])

    def test_undo_redo_undo_again(self):
        calls = [work([0]), work([64])]
        given = told(*calls, *[undo(), piece(), redo(), piece()] * 5, undo(), undo(), undo(), piece())
        self.assertEqual(given[2:], [[0], [0, 0], [0], [0, 0, 64]] * 5 + [[0], [0], [-2], [0]])

    def test_sixteen_changes_undone_and_redone(self):
        acts = [0, 64, 1, 64] * 4
        changes = [work([act]) for act in acts]
        given = told(*changes, *[undo()] * 17, piece(), *[redo()] * 17, piece())
        self.assertEqual(given[16:], [[0]] * 16 + [[-2], [0]] + [[0]] * 16 + [[-2], [0] + acts])

    def test_sixteen_changes_one_by_one(self):
        acts = [0, 64, 1, 64] * 4
        changes = [work([act]) for act in acts]
        for count in range(17):
            given = told(*changes, *[undo()] * 16, *[redo()] * count, piece())
            self.assertEqual(given[-1], [0] + acts[:count])

    def test_seventeen_changes_undone_and_redone_and_undone(self):
        changes = [work([0])] * 17
        self.assertEqual(told(*changes, *[undo()] * 17, *[redo()] * 17, piece())[17:], (
            [[0]] * 16 + [[-2]] + [[0]] * 16 + [[-2], [0] + [0] * 17]))
        changes = [work([0])] * 18
        given = told(*changes, *[undo()] * 3, *[redo()] * 2, *[undo()] * 16, piece())
        self.assertEqual(given[23:], [[0]] * 15 + [[-2], [0, 0, 0]])
        given = told(*changes, *[undo()] * 3, *[redo()] * 3, work([64]), *[undo()] * 17, piece())
        self.assertEqual(given[25:], [[0]] * 16 + [[-2], [0, 0, 0, 0]])
