"""begin and undo: what's new on a new pillow, what a change is and how many can be undone."""

import unittest

from helper import BIGGEST, back, begin, drop, keep, last, mend, pins, piece_is, put, told, undo, work, workby

TEXT = "pairs 2\ndo 0 c\n"


class Begin(unittest.TestCase):
    def test_number_of_pairs(self):
        self.assertEqual(told(begin(0)), [[-1]])
        self.assertEqual(told(begin(1)), [[0]])
        self.assertEqual(told(begin(32)), [[0]])
        self.assertEqual(told(begin(33)), [[-1]])
        self.assertEqual(told(begin(BIGGEST)), [[-1]])

    def test_pairs_are_those_told(self):
        self.assertEqual(told(begin(1), work([0]), work([1]), work([64])), [[0], [0, 1], [-5], [-5]])
        self.assertEqual(told(begin(32), work([31, 94]), work([32]), work([95])), [[0], [0, 2], [-5], [-5]])

    def test_new_pillow(self):
        given = told(put("a", TEXT), work([0, 1]), begin(2), work([]), undo(), undo(), drop("a"))
        self.assertEqual(given[2:], [[0], [0, 0], [0], [-2], [-2]])

    def test_nothing_to_undo_behind_a_begin(self):
        self.assertEqual(told(work([0]), begin(2), undo()), [[0, 1], [0], [-2]])

    def test_refused_leaves_all_as_it_was(self):
        for pairs in (0, 33, BIGGEST):
            given = told(begin(3), work([0, 65]), keep("a"), begin(pairs), work([2]), undo(), drop("a"), undo())
            self.assertEqual(given[3:], [[-1], [0, 3], [0], [0], [0]])
            self.assertEqual(last(begin(3), work([0]), begin(pairs), undo()), [0])


class Undo(unittest.TestCase):
    def test_nothing_to(self):
        self.assertEqual(told(undo(), undo()), [[-2], [-2]])

    def test_piece_and_patterns_are_as_they_were(self):
        calls = [begin(2), work([0, 64]), put("a", TEXT)]
        changes = (
            put("b", TEXT), pins("b", [[0, 1, 0]]), keep("b"), drop("a"), work([1]), workby("a", 3), back([64]), mend("a"),
        )
        for change in changes:
            given = told(*calls, change, undo(), drop("b"), workby("a", 1), undo(), back([0, 64]))
            self.assertEqual(given[3][0], 0)
            self.assertEqual(given[4:], [[0], [-2], [0, 3], [0], [0, 0]])

    def test_last_first(self):
        calls = [work([0]), work([64]), work([1])]
        self.assertTrue(piece_is([0, 64], *calls, undo()))
        self.assertTrue(piece_is([0], *calls, undo(), undo()))
        self.assertTrue(piece_is([], *calls, undo(), undo(), undo()))
        self.assertEqual(last(*calls, undo(), undo(), undo(), undo()), [-2])

    def test_sixteen_changes(self):
        given = told(*[work([0])] * 16, *[undo()] * 17, work([]))
        self.assertEqual(given[16:], [[0]] * 16 + [[-2], [0, 0]])

    def test_seventeenth_change(self):
        given = told(*[work([0])] * 17, *[undo()] * 17, work([]))
        self.assertEqual(given[17:], [[0]] * 16 + [[-2], [0, 1]])
        given = told(*[work([0])] * 30, *[undo()] * 17, work([]))
        self.assertEqual(given[30:], [[0]] * 16 + [[-2], [0, 14]])

    def test_changes_behind_an_undo_count_too(self):
        given = told(*[work([0])] * 20, *[undo()] * 5, *[work([64])] * 2, *[undo()] * 14, work([]))
        self.assertEqual(given[27:], [[0]] * 13 + [[-2], [0, 4]])

    def test_refused_call_is_no_change(self):
        refused = (
            begin(0), put("c", TEXT), put("a", TEXT), put("b", "x"), put("b", "pairs 3\n"), pins("b", [[0, 0]]),
            pins("b", [[1, 0]]), keep("a"), drop("b"), work([2]), workby("b", 1), workby("a", 512), back([1]), mend("b"),
        )
        for call in refused:
            given = told(put("a", TEXT), work([0]), call, undo(), work([]), undo(), undo(), undo())
            self.assertLess(given[2][0], 0)
            self.assertEqual(given[3:], [[0], [0, 0], [0], [0], [-2]])

    def test_refused_calls_push_no_change_out(self):
        given = told(*[work([0])] * 16, *[work([9])] * 10, *[undo()] * 17)
        self.assertEqual(given[26:], [[0]] * 16 + [[-2]])

    def test_refused_undo_leaves_all_as_it_was(self):
        given = told(undo(), work([0]), keep("a"), undo(), undo(), undo(), work([]), drop("a"), undo(), undo())
        self.assertEqual(given[3:], [[0], [0], [-2], [0, 0], [-2], [0], [-2]])

    def test_change_is_one_though_all_be_as_before(self):
        same = (work([]), workby("a", 0), back([]), mend("a"))
        for call in same:
            given = told(work([0]), keep("a"), call, undo(), drop("a"), undo(), undo(), undo(), undo())
            self.assertEqual(given[3:], [[0], [0], [0], [0], [0], [-2]])

    def test_name_of_an_undone_put_is_free(self):
        self.assertEqual(told(put("a", TEXT), undo(), put("a", TEXT)), [[0], [0], [0]])
        self.assertEqual(told(pins("a", []), undo(), pins("a", [])), [[0], [0], [0]])
        self.assertEqual(told(keep("a"), undo(), keep("a"), keep("a")), [[0], [0], [0], [-3]])

    def test_name_of_an_undone_drop_is_taken(self):
        self.assertEqual(told(keep("a"), drop("a"), undo(), keep("a")), [[0], [0], [0], [-3]])

    def test_undone_ninth_pattern(self):
        calls = [keep("a" + letter) for letter in "abcdefgh"]
        self.assertEqual(told(*calls, keep("b"), undo(), keep("b"))[8:], [[-9], [0], [0]])
