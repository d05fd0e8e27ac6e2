"""pairs, names, piece, pattern: what the pillow has, told."""

import unittest

from helper import (
    NO_NAMES, back, begin, codes, drop, keep, last, lines, load, mend, names, pairs, pattern, piece, pins, put, redo, saved,
    told, undo, work, workby,
)


def named(*rows):
    """What names answers for these."""
    answer = [0]
    for name in rows:
        answer += [len(name)] + codes(name)
    return answer


class Pairs(unittest.TestCase):
    def test_new_pillow(self):
        self.assertEqual(told(pairs()), [[0, 2]])

    def test_behind_a_begin(self):
        for n in range(1, 33):
            self.assertEqual(told(begin(n), pairs(), begin(33 - n), pairs()), [[0], [0, n], [0], [0, 33 - n]])

    def test_behind_a_refused_begin(self):
        for n in (0, 33, 4294967295):
            self.assertEqual(told(begin(n), pairs(), begin(7), begin(n), pairs()), [[-1], [0, 2], [0], [-1], [0, 7]])

    def test_behind_changes(self):
        self.assertEqual(last(begin(5), work([4]), keep("a"), undo(), undo(), redo(), pairs()), [0, 5])

    def test_behind_a_load_and_its_undo_and_redo(self):
        calls = [begin(4), work([3]), load(saved(9, [71, 8])), pairs(), undo(), pairs(), redo(), pairs(), undo(), pairs()]
        self.assertEqual(told(*calls)[3:], [[0, 9], [0], [0, 4], [0], [0, 9], [0], [0, 4]])
        calls = [load(saved(1, [])), load(saved(32, [])), pairs(), undo(), pairs(), undo(), pairs(), redo(), redo(), pairs()]
        self.assertEqual(told(*calls)[2:], [[0, 32], [0], [0, 1], [0], [0, 2], [0], [0], [0, 32]])

    def test_behind_a_refused_load(self):
        self.assertEqual(last(begin(4), load(saved(9, []) + [0]), pairs()), [0, 4])

    def test_acts_are_of_the_loaded_pairs(self):
        calls = [load(saved(9, [])), work([8]), work([9]), undo(), undo(), work([8])]
        self.assertEqual(told(*calls), [[0], [0, 1], [-5], [0], [0], [-5]])
        self.assertEqual(told(load(saved(9, [])), put("a", "pairs 9\n"), put("b", "pairs 2\n")), [[0], [0], [-6]])
        self.assertEqual(told(load(saved(9, [])), pins("a", [[7, 8]]), pins("b", [[8, 9]])), [[0], [0], [-5, 0, 1]])


class Names(unittest.TestCase):
    def test_no_pattern(self):
        self.assertEqual(told(names()), [[0]])
        self.assertEqual(last(keep("a"), drop("a"), names()), [0])
        self.assertEqual(last(keep("a"), begin(2), names()), [0])

    def test_numbers_as_they_stand(self):
        self.assertEqual(last(keep("xyz"), keep("ab"), names()), [0, 2, 97, 98, 3, 120, 121, 122])

    def test_eight_in_another_order(self):
        rows = ["lace", "abc", "zzzzzzzzzzzz", "a", "torchon", "m", "cc", "bucks"]
        self.assertEqual(last(*[keep(name) for name in rows], names()), named(*sorted(rows)))
        self.assertEqual(last(*[keep(name) for name in reversed(rows)], names()), named(*sorted(rows)))

    def test_beginning_of_another_comes_first(self):
        rows = ["ab", "abcd", "a", "abc", "b", "aba", "aa", "ba"]
        self.assertEqual(last(*[keep(name) for name in rows], names()), named("a", "aa", "ab", "aba", "abc", "abcd", "b", "ba"))

    def test_length_does_not_count_first(self):
        self.assertEqual(last(keep("z"), keep("abcdefghijkl"), keep("mm"), names()), named("abcdefghijkl", "mm", "z"))

    def test_put_by_put_pins_and_keep(self):
        self.assertEqual(last(put("z", "pairs 2\n"), pins("k", []), keep("a"), names()), named("a", "k", "z"))

    def test_behind_drop_undo_redo(self):
        calls = [keep("b"), keep("d"), keep("a"), drop("b"), names(), undo(), names(), undo(), names(), redo(), redo(), names()]
        self.assertEqual(told(*calls)[4:], [
            named("a", "d"), [0], named("a", "b", "d"), [0], named("b", "d"), [0], [0], named("a", "d"),
        ])

    def test_behind_load(self):
        laid = saved(2, [], [("ab", []), ("abc", [0]), ("x", [64])])
        self.assertEqual(told(keep("q"), load(laid), names(), keep("aa"), names(), undo(), undo(), names(), redo(), names()), [
            [0], [0], named("ab", "abc", "x"), [0], named("aa", "ab", "abc", "x"), [0], [0], named("q"), [0],
            named("ab", "abc", "x"),
        ])

    def test_refused_put_leaves_no_name(self):
        self.assertEqual(last(keep("a"), put("b", "x"), pins("d", [[1, 0]]), keep("end"), names()), named("a"))


class Piece(unittest.TestCase):
    def test_no_acts(self):
        self.assertEqual(told(piece()), [[0]])
        self.assertEqual(last(work([0, 64]), back([0, 64]), piece()), [0])
        self.assertEqual(last(work([0, 64]), begin(2), piece()), [0])

    def test_form_of_another_order(self):
        self.assertEqual(last(begin(4), work([3, 2, 1, 0]), piece()), [0, 0, 1, 2, 3])
        self.assertEqual(last(begin(4), work([66, 64, 3, 0]), piece()), [0, 64, 0, 66, 3])
        self.assertEqual(last(begin(4), work([66, 3]), work([64, 0]), piece()), [0, 64, 0, 66, 3])
        self.assertEqual(last(begin(4), work([64, 3, 0]), piece()), [0, 3, 64, 0])
        self.assertEqual(last(begin(3), work([65, 0, 65, 0, 2]), piece()), [0, 0, 0, 65, 65, 2])
        self.assertEqual(last(begin(32), work([94, 0, 31, 64]), piece()), [0, 0, 64, 94, 31])

    def test_acts_that_touch_keep_their_order(self):
        self.assertEqual(last(work([64, 1, 64, 0]), piece()), [0, 64, 1, 64, 0])
        self.assertEqual(last(begin(3), work([65, 1, 64, 65]), piece()), [0, 65, 1, 64, 65])

    def test_crosses_side_by_side_do_not_touch(self):
        self.assertEqual(last(begin(3), work([65, 64, 65]), piece()), [0, 64, 65, 65])

    def test_behind_each_call(self):
        calls = [begin(3), put("a", lines("pairs 3", "do 1 c", "do 0 r l")), work([2, 0, 65])]
        self.assertEqual(last(*calls, piece()), [0, 0, 2, 65])
        calls.append(workby("a", 2))
        self.assertEqual(last(*calls, piece()), [0, 0, 0, 0, 2, 65, 65, 1, 65, 1])
        calls.append(back([1, 0]))
        self.assertEqual(last(*calls, piece()), [0, 0, 0, 2, 65, 65, 1, 65])
        calls.append(mend("a"))
        self.assertEqual(last(*calls, piece()), [0, 0, 65, 1])
        self.assertEqual(last(*calls, undo(), piece()), [0, 0, 0, 2, 65, 65, 1, 65])
        self.assertEqual(last(*calls, undo(), undo(), piece()), [0, 0, 0, 0, 2, 65, 65, 1, 65, 1])
        self.assertEqual(last(*calls, undo(), undo(), redo(), piece()), [0, 0, 0, 2, 65, 65, 1, 65])
        self.assertEqual(last(*calls, load(saved(4, [3, 64, 0])), piece()), [0, 3, 64, 0])
        self.assertEqual(last(*calls, load(saved(4, [3, 64, 0])), work([1, 3]), piece()), [0, 3, 3, 64, 0, 1])
        self.assertEqual(last(*calls, load(saved(4, [3, 64, 0])), undo(), piece()), [0, 0, 65, 1])

    def test_behind_refused_calls(self):
        calls = [work([64, 1]), work([2]), work([0] * 513), work([0] * 511), workby("a", 1), back([64]), mend("a"), load([])]
        self.assertEqual(last(*calls, piece()), [0, 64, 1])

    def test_512_acts(self):
        self.assertEqual(last(work([0, 64] * 256), piece()), [0] + [0, 64] * 256)
        self.assertEqual(last(begin(3), work([2, 0] * 256), piece()), [0] + [0] * 256 + [2] * 256)
        acts = list(range(31, -1, -1)) * 16
        self.assertEqual(last(begin(32), work(acts), piece()), [0] + sorted(acts))

    def test_telling_changes_nothing(self):
        self.assertEqual(told(work([1, 64]), piece(), piece(), undo(), undo(), piece()), [
            [0, 2], [0, 1, 64], [0, 1, 64], [0], [-2], [0],
        ])


class Pattern(unittest.TestCase):
    def test_made_by_put(self):
        text = lines("pairs 4", "do 2 c t", "do 0 c t")
        self.assertEqual(last(begin(4), put("a", text), pattern("a")), [0, 64, 0, 1, 66, 2, 3])

    def test_made_by_pins(self):
        calls = [begin(4), pins("a", [[2, 3, 0, 2], [0, 1, 0, 1]])]
        self.assertEqual(last(*calls, pattern("a")), [0, 64, 0, 66, 3])

    def test_made_by_keep(self):
        calls = [begin(4), work([66, 3, 64, 0]), keep("a")]
        self.assertEqual(last(*calls, pattern("a")), [0, 64, 0, 66, 3])

    def test_made_by_load(self):
        calls = [load(saved(4, [3], [("a", [64, 0, 66, 3]), ("b", [])]))]
        self.assertEqual(told(*calls, pattern("a"), pattern("b"))[1:], [[0, 64, 0, 66, 3], [0]])

    def test_kept_one_stays_though_the_piece_goes_on(self):
        calls = [work([0, 64]), keep("a"), work([1]), keep("b"), back([64, 1]), work([1])]
        self.assertEqual(told(*calls, pattern("a"), pattern("b"), piece())[6:], [[0, 0, 64], [0, 0, 64, 1], [0, 0, 1]])
        calls += [mend("b"), work([64]), workby("a", 2)]
        self.assertEqual(told(*calls, pattern("a"), pattern("b"))[9:], [[0, 0, 64], [0, 0, 64, 1]])

    def test_behind_other_calls(self):
        calls = [put("a", "pairs 2\ntwist 1 2\n"), work([0])]
        for change in (work([1]), workby("a", 3), back([0]), mend("a"), keep("b"), undo()):
            self.assertEqual(last(*calls, change, pattern("a")), [0, 1, 1])
        self.assertEqual(last(*calls, drop("a"), pattern("a")), [-2])
        self.assertEqual(last(*calls, drop("a"), undo(), pattern("a")), [0, 1, 1])
        self.assertEqual(last(*calls, drop("a"), undo(), redo(), pattern("a")), [-2])
        self.assertEqual(last(*calls, undo(), undo(), pattern("a")), [-2])
        self.assertEqual(last(*calls, undo(), undo(), redo(), pattern("a")), [0, 1, 1])
        self.assertEqual(last(*calls, drop("a"), keep("a"), pattern("a")), [0, 0])
        self.assertEqual(last(*calls, load(saved(3, [])), pattern("a")), [-2])
        self.assertEqual(last(*calls, load(saved(3, [], [("a", [2])])), pattern("a")), [0, 2])
        self.assertEqual(last(*calls, load(saved(3, [], [("a", [2])])), undo(), pattern("a")), [0, 1, 1])

    def test_no_acts(self):
        self.assertEqual(told(put("a", "pairs 2\n"), pattern("a")), [[0], [0]])
        self.assertEqual(told(pins("a", []), pattern("a")), [[0], [0]])
        self.assertEqual(told(keep("a"), pattern("a")), [[0], [0]])

    def test_512_acts(self):
        text = lines("pairs 3", "repeat 256", "twist 2 1", "twist 0 1", "end")
        self.assertEqual(last(begin(3), put("a", text), pattern("a")), [0] + [0] * 256 + [2] * 256)
        rows = [[0, 1] + [0, 1] * 4] + [[62 + 2 * pin, 63 + 2 * pin] + [0, 1] * 4 for pin in range(1, 64)]
        self.assertEqual(last(pins("a", rows), pattern("a")), [0] + [64, 0] * 256)
        self.assertEqual(last(work([64, 1] * 256), keep("a"), back([1]), pattern("a")), [0] + [64, 1] * 256)

    def test_no_pattern_of_that_name(self):
        for name in ("a", "", "ab", "abcd", "A", "abcdefghijklm", [0], [255] * 40) + NO_NAMES:
            self.assertEqual(told(keep("abc"), pattern(name), names()), [[0], [-2], named("abc")])
