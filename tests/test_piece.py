"""work, workby, back, mend: the piece is the lace of all that was worked and not taken back."""

import unittest

from helper import BIGGEST, back, begin, drop, keep, last, mend, pattern_is, piece_is, put, told, undo, work, workby


class Work(unittest.TestCase):
    def test_acts_are_worked_behind(self):
        self.assertEqual(told(work([0, 64]), work([1, 1]), work([])), [[0, 2], [0, 4], [0, 4]])
        self.assertTrue(piece_is([0, 64, 1, 1], work([0, 64]), work([1, 1])))
        self.assertFalse(piece_is([64, 0, 1, 1], work([0, 64]), work([1, 1])))

    def test_same_lace_in_another_order(self):
        self.assertTrue(piece_is([65, 0, 0, 2], begin(3), work([0]), work([65, 2]), work([0])))

    def test_512_and_513_acts_told(self):
        self.assertEqual(told(work([0] * 512)), [[0, 512]])
        self.assertEqual(told(work([0] * 513)), [[-1]])
        self.assertEqual(told(work([0] * 700)), [[-1]])

    def test_no_act_of_so_many_pairs(self):
        for pairs in (1, 2, 5, 31, 32):
            right = list(range(pairs)) + list(range(64, 64 + pairs - 1))
            self.assertEqual(last(begin(pairs), work(right)), [0, len(right)])
            for act in [pairs] + list(range(32, 64)) + [64 + pairs - 1, 96, 128, 255]:
                self.assertEqual(last(begin(pairs), work([act])), [-5])
                self.assertEqual(last(begin(pairs), work([0] * 500 + [act])), [-5])

    def test_512_acts_and_one_more(self):
        given = told(work([0] * 511), work([64]), work([]), work([0]), work([1, 1]), back([64]), work([0]))
        self.assertEqual(given, [[0, 511], [0, 512], [0, 512], [-9], [-9], [0, 511], [0, 512]])

    def test_order_of_refusals(self):
        self.assertEqual(last(work([0] * 512), work([9] * 513)), [-1])
        self.assertEqual(last(work([0] * 512), work([9])), [-5])
        self.assertEqual(last(work([0] * 512), work([0])), [-9])

    def test_refused_leaves_all_as_it_was(self):
        for acts in ([0] * 513, [64, 2], [0] * 511):
            given = told(work([0, 64]), work(acts), undo(), undo(), work([0, 64]), work(acts), back([0, 64]))
            self.assertLess(given[1][0], 0)
            self.assertEqual(given[2:5] + given[6:], [[0], [-2], [0, 2], [0, 0]])


class Workby(unittest.TestCase):
    def test_times(self):
        calls = [work([0, 64]), keep("a")]
        for times in (0, 1, 2, 255):
            given = told(*calls, workby("a", times), back([0, 64] * (times + 1)))
            self.assertEqual(given[2:], [[0, 2 + 2 * times], [0, 0]])

    def test_pattern_of_another_order(self):
        calls = [begin(4), put("a", "pairs 4\ndo 2 c\ndo 0 c t\ndo 1 c\n")]
        self.assertTrue(piece_is([64, 0, 1, 66, 65, 66, 64, 1, 0, 65], *calls, workby("a", 2)))

    def test_pattern_of_no_acts(self):
        calls = [keep("a"), work([0] * 512)]
        for times in (0, 1, 512, BIGGEST):
            self.assertEqual(last(*calls, workby("a", times)), [0, 512])

    def test_just_512_acts_and_more(self):
        calls = [put("a", "pairs 2\ntwist 0 3\n"), work([64, 64])]
        self.assertEqual(told(*calls, workby("a", 170), workby("a", 0), workby("a", 1))[2:], [[0, 512], [0, 512], [-9]])
        self.assertEqual(told(*calls, workby("a", 171), work([]))[2:], [[-9], [0, 2]])
        self.assertEqual(last(*calls, workby("a", BIGGEST)), [-9])
        self.assertEqual(told(put("a", "pairs 2\ncross 0 1\n"), workby("a", 512), workby("a", 1))[1:], [[0, 512], [-9]])
        self.assertEqual(told(put("a", "pairs 2\ncross 0 1\n"), workby("a", 513)), [[0], [-9]])

    def test_no_pattern_before_too_many(self):
        self.assertEqual(told(work([0] * 512), workby("a", BIGGEST)), [[0, 512], [-2]])

    def test_pattern_stays(self):
        calls = [put("a", "pairs 2\ntwist 0 3\n"), workby("a", 2), work([64])]
        self.assertTrue(pattern_is("a", [0, 0, 0], *calls))


class Back(unittest.TestCase):
    def test_last_acts(self):
        calls = [begin(3), work([0, 64, 1, 65, 2])]
        self.assertEqual(told(*calls, back([2]), back([1, 65]), back([0, 64]))[2:], [[0, 4], [0, 2], [0, 0]])
        self.assertTrue(piece_is([0, 64], *calls, back([1, 65, 2])))

    def test_acts_that_do_not_stand_last_in_the_form(self):
        # The form of each is 0 1 2 3: every one of them can be the last.
        for act in range(4):
            rest = [other for other in (3, 2, 1, 0) if other != act]
            self.assertEqual(told(begin(4), work([3, 1, 2, 0]), back([act]), back(rest))[2:], [[0, 3], [0, 0]])
        calls = [begin(4), work([66, 64, 3, 0])]
        self.assertEqual(told(*calls, back([64, 0]), back([66, 3]))[2:], [[0, 2], [0, 0]])
        self.assertEqual(told(*calls, back([66, 3]), back([64, 0]))[2:], [[0, 2], [0, 0]])
        self.assertEqual(told(*calls, back([0, 3]), back([64]), back([66]))[2:], [[0, 2], [0, 1], [0, 0]])

    def test_acts_that_cannot(self):
        calls = [begin(3), work([0, 64, 2, 65])]
        wrong = ([2], [0], [1], [65, 2], [64, 0], [65, 65], [64, 64], [2, 2, 65], [0, 0, 64], [1, 64, 65], [0, 2],
                 [64, 2, 65, 65], [0, 64, 65, 2], [64, 0, 2, 65], [0, 0, 64, 2, 65], [1, 0, 64, 2, 65])
        for acts in wrong:
            self.assertEqual(last(*calls, back(acts)), [-6], acts)
        for acts in ([64], [65], [65, 64], [2, 65], [0, 64], [2, 64, 65], [0, 2, 65, 64]):
            self.assertEqual(last(*calls, back(acts)), [0, 4 - len(acts)], acts)

    def test_all_acts_in_another_order(self):
        calls = [begin(4), work([0, 66, 64, 3, 1])]
        self.assertEqual(last(*calls, back([66, 3, 0, 64, 1])), [0, 0])
        self.assertEqual(last(*calls, back([66, 0, 64, 1, 3])), [0, 0])
        self.assertEqual(last(*calls, back([64, 0, 66, 3, 1])), [-6])
        self.assertEqual(last(*calls, back([66, 0, 3, 1, 64])), [-6])

    def test_no_acts(self):
        self.assertEqual(told(back([])), [[0, 0]])
        self.assertEqual(told(work([0, 64]), back([])), [[0, 2], [0, 2]])

    def test_piece_of_no_acts(self):
        self.assertEqual(told(back([0])), [[-6]])

    def test_512_and_513_acts_told(self):
        calls = [work([0, 64] * 256)]
        self.assertEqual(told(*calls, back([0, 64] * 256)), [[0, 512], [0, 0]])
        self.assertEqual(told(*calls, back([0, 64] * 256 + [0])), [[0, 512], [-1]])
        self.assertEqual(told(*calls, back([9] * 513)), [[0, 512], [-1]])

    def test_no_act(self):
        for act in (2, 31, 32, 63, 65, 255):
            self.assertEqual(told(work([0, 64]), back([act])), [[0, 2], [-5]])
            self.assertEqual(told(work([0, 64]), back([64, act, 64])), [[0, 2], [-5]])
        self.assertEqual(told(begin(1), back([64])), [[0], [-5]])

    def test_refused_leaves_all_as_it_was(self):
        for acts in ([0] * 513, [2], [0], [0, 0, 64]):
            given = told(work([0, 64]), back(acts), back([0, 64]), undo(), undo(), undo())
            self.assertLess(given[1][0], 0)
            self.assertEqual(given[2:], [[0, 0], [0], [0], [-2]])


class Mend(unittest.TestCase):
    def mended(self, pairs, piece, pattern):
        calls = [begin(pairs), work(pattern), keep("a"), back(pattern), work(piece), mend("a")]
        self.assertTrue(piece_is(pattern, *calls))
        self.assertTrue(pattern_is("a", pattern, *calls, work([0])))
        self.assertTrue(piece_is(piece, *calls, undo()))
        self.assertEqual(last(*calls, mend("a")), [0, 0, 0])
        given = last(*calls)
        self.assertEqual(given[0], 0)
        return given[1:]

    def test_order_of_acts_that_do_not_touch(self):
        self.assertEqual(self.mended(4, [0, 1, 2, 3], [3, 1, 0, 2]), [0, 0])
        self.assertEqual(self.mended(4, [66, 3, 64, 0, 65], [64, 66, 0, 3, 65]), [0, 0])
        self.assertEqual(self.mended(32, [94, 0, 31, 64], [0, 64, 94, 31]), [0, 0])

    def test_laces_that_differ_early(self):
        self.assertEqual(self.mended(2, [0, 64, 1], [64, 1, 0]), [3, 3])
        self.assertEqual(self.mended(2, [0, 64, 64, 64, 64], [0, 0, 64, 64, 64]), [4, 4])
        self.assertEqual(self.mended(4, [0, 64, 3, 66, 3], [64, 0, 3, 66, 3]), [2, 2])
        self.assertEqual(self.mended(4, [0, 64, 3, 1, 3], [64, 0, 3, 1, 3]), [3, 3])

    def test_laces_that_differ_late(self):
        self.assertEqual(self.mended(2, [0, 64, 1, 0], [0, 64, 1, 1]), [1, 1])
        self.assertEqual(self.mended(2, [0, 64], [0, 64, 1, 1]), [0, 2])
        self.assertEqual(self.mended(2, [0, 64, 1, 1], [0, 64]), [2, 0])

    def test_no_acts(self):
        self.assertEqual(self.mended(2, [], []), [0, 0])
        self.assertEqual(self.mended(2, [0, 64, 1], []), [3, 0])
        self.assertEqual(self.mended(2, [], [0, 64, 1]), [0, 3])

    def test_nothing_in_common(self):
        self.assertEqual(self.mended(2, [0] * 256, [64] * 256), [256, 256])
        self.assertEqual(self.mended(3, [0] * 100, [2] * 200), [100, 200])

    def test_long_laces(self):
        self.assertEqual(self.mended(3, [2, 0] * 256, [0] * 256 + [2] * 256), [0, 0])
        self.assertEqual(self.mended(3, [0, 65] * 255 + [64, 65], [65, 0] * 256), [1, 1])

    def test_no_pattern(self):
        self.assertEqual(told(work([0]), mend("a"), undo(), undo()), [[0, 1], [-2], [0], [-2]])
        self.assertEqual(told(keep("a"), drop("a"), mend("a")), [[0], [0], [-2]])

    def test_piece_and_pattern_go_apart_again(self):
        calls = [work([0]), keep("a"), mend("a"), work([64])]
        self.assertTrue(pattern_is("a", [0], *calls))
        self.assertTrue(piece_is([0, 64], *calls))


class WholePiece(unittest.TestCase):
    def test_all_that_was_worked_and_not_taken_back(self):
        calls = [begin(3), put("a", "pairs 3\nlet s = c t\nrow s 1\n"), work([0, 64]), workby("a", 2), back([1]), work([65])]
        self.assertTrue(piece_is([0, 64, 65, 1, 2, 65, 2, 65], *calls))
        calls += [undo(), keep("b"), back([]), work([2]), mend("a"), undo(), undo()]
        self.assertTrue(piece_is([0, 64, 65, 1, 2, 65, 2], *calls))
        self.assertTrue(pattern_is("b", [0, 64, 65, 1, 2, 65, 2], *calls))
        self.assertTrue(pattern_is("a", [65, 1, 2], *calls))
