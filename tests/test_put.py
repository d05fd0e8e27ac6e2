"""put: what texts mean, and the refusals behind the text's faults."""

import unittest

from helper import begin, last, lines, mend, pattern_is, put, told, undo, work, workby


class Meaning(unittest.TestCase):
    def means(self, pairs, rows, acts):
        calls = [begin(pairs), put("p", lines("pairs " + str(pairs), *rows))]
        self.assertEqual(told(*calls), [[0], [0]], rows)
        self.assertTrue(pattern_is("p", acts, *calls), rows)
        self.assertEqual(last(*calls, work(acts), mend("p")), [0, 0, 0], rows)
        self.assertEqual(last(*calls, workby("p", 1)), [0, len(acts)], rows)

    def test_pairs_line_alone(self):
        self.means(1, [], [])
        self.means(32, [], [])

    def test_letters(self):
        self.means(4, ["do 1 c"], [65])
        self.means(4, ["do 1 l"], [1])
        self.means(4, ["do 1 r"], [2])
        self.means(4, ["do 1 t"], [1, 2])
        self.means(4, ["do 2 c t l c r"], [66, 2, 3, 2, 66, 3])
        self.means(32, ["do 30 c t"], [94, 30, 31])
        self.means(2, ["do 0 c"], [64])

    def test_times_of_items(self):
        self.means(3, ["do 1 3*c"], [65, 65, 65])
        self.means(3, ["do 0 1*c 2*t c"], [64, 0, 1, 0, 1, 64])
        self.means(3, ["do 0 12*l r 2*r"], [0] * 12 + [1, 1, 1])
        self.means(3, ["let a = c l", "do 1 2*a"], [65, 1, 65, 1])

    def test_names_let(self):
        self.means(3, ["let a = c", "do 0 a", "do 1 a"], [64, 65])
        self.means(3, ["let a = c t", "let b = a 2*l a", "do 0 b"], [64, 0, 1, 0, 0, 64, 0, 1])
        self.means(3, ["let abcdefghijkl = c", "do 1 abcdefghijkl"], [65])
        self.means(3, ["let s = c", "let ends = 2*s r", "do 0 ends l 2*ends"], [64, 64, 1, 0, 64, 64, 1, 64, 64, 1])

    def test_let_works_nothing(self):
        self.means(1, ["let a = 99999*c"], [])
        self.means(2, ["let a = c", "let b = 2*a"], [])

    def test_rows(self):
        self.means(6, ["let a = c t", "row a 1"], [65, 1, 2])
        self.means(6, ["let a = c l", "row a 0 2 4"], [64, 0, 66, 2, 68, 4])
        self.means(6, ["let a = c", "row a 0 3", "row a 1 4"], [64, 67, 65, 68])
        rows = ["let a = r", "row a " + " ".join(str(k) for k in range(0, 32, 2))]
        self.means(32, rows, list(range(1, 32, 2)))

    def test_twist_and_cross(self):
        self.means(3, ["twist 2 1"], [2])
        self.means(3, ["twist 0 4", "cross 1 2", "twist 1 1"], [0] * 4 + [65, 65, 1])
        self.means(1, ["twist 0 512"], [0] * 512)
        self.means(2, ["cross 0 10"], [64] * 10)

    def test_lines_stand_one_behind_another(self):
        self.means(3, ["cross 0 1", "twist 1 1", "cross 1 1", "twist 0 1"], [64, 1, 65, 0])
        self.means(3, ["twist 0 1", "cross 1 1", "twist 1 1", "cross 0 1"], [0, 65, 1, 64])

    def test_repeats(self):
        self.means(2, ["repeat 3", "twist 0 1", "cross 0 1", "end"], [0, 64] * 3)
        self.means(2, ["repeat 1", "cross 0 2", "end", "twist 1 1"], [64, 64, 1])
        rows = ["repeat 2", "twist 0 1", "repeat 3", "cross 0 1", "end", "twist 1 1", "end"]
        self.means(2, rows, [0, 64, 64, 64, 1] * 2)
        self.means(2, ["repeat 2", "repeat 2", "cross 0 1", "end", "repeat 2", "twist 0 1", "end", "end"], [64, 64, 0, 0] * 2)

    def test_repeats_eight_deep(self):
        rows = ["repeat 2"] * 8 + ["cross 0 1"] + ["end", "twist 0 1"] * 8
        acts = [64]
        for turn in range(8):
            acts = acts * 2 + [0]
        self.means(2, rows[:-1], acts[:-1])

    def test_let_within_a_repeat(self):
        self.means(2, ["repeat 3", "let a = c", "do 0 a", "end", "do 0 a l"], [64] * 4 + [0])
        self.means(2, ["repeat 5", "let a = c r", "end", "do 0 a"], [64, 1])
        self.means(2, ["repeat 99999", "let a = c", "let b = a", "end", "do 0 b"], [64])

    def test_repeats_that_work_nothing(self):
        self.means(2, ["repeat 99999", "end"], [])
        self.means(2, ["repeat 99999"] * 8 + ["end"] * 8, [])
        self.means(2, ["repeat 99999"] * 8 + ["let a = 2*c"] + ["end"] * 8 + ["do 0 a"], [64, 64])
        rows = ["repeat 100", "cross 0 1"] + ["repeat 99999"] * 7 + ["end"] * 7 + ["twist 0 1", "end"]
        self.means(2, rows, [64, 0] * 100)

    def test_many_lines_that_work_nothing(self):
        rows = ["repeat 512", "twist 0 1"]
        for first in "abdefghijk":
            rows += ["let " + first + second + " = c" for second in "abcdefghijklmnopqrstuvwxyz"]
        self.means(2, [row for row in rows if row != "let do = c"] + ["end"], [0] * 512)

    def test_name_of_very_many_acts_that_is_not_worked(self):
        rows = ["let aa = 99999*c"]
        rows += ["let a%s = 99999*a%s" % (chr(k), chr(k - 1)) for k in range(98, 123)]
        self.means(2, rows + ["do 0 l"], [0])

    def test_very_long_chain_of_names(self):
        letters = "abcdefghij"
        names = ["x" + a + b + c for a in letters for b in letters for c in letters][:950]
        rows = ["let %s = %s" % (name, before) for name, before in zip(names, ["c"] + names)]
        self.means(2, rows + ["do 0 2*" + names[-1]], [64, 64])


class Refusals(unittest.TestCase):
    def test_other_pairs(self):
        for pairs in (1, 2, 3, 32):
            for other in (1, 2, 3, 32):
                expected = [0] if pairs == other else [-6]
                self.assertEqual(last(begin(pairs), put("a", lines("pairs " + str(other)))), expected)

    def test_other_pairs_behind_faults_and_before_many_acts(self):
        self.assertEqual(told(put("a", "pairs 3\ntwist 3 1\n")), [[-5, 3, 1]])
        self.assertEqual(told(put("a", "pairs 3\ntwist 0 4097\n")), [[-5, 5, 1]])
        self.assertEqual(told(put("a", "pairs 3\ntwist 0 4096\n")), [[-6]])
        self.assertEqual(told(put("a", "pairs 3\ntwist 0 513\n")), [[-6]])

    def test_512_and_513_acts(self):
        self.assertEqual(told(put("a", "pairs 2\ntwist 0 512\n"), workby("a", 1)), [[0], [0, 512]])
        self.assertEqual(told(put("a", "pairs 2\ntwist 0 513\n"), workby("a", 1)), [[-9], [-2]])
        self.assertEqual(told(put("a", "pairs 2\nrepeat 256\ndo 0 t\nend\n")), [[0]])
        self.assertEqual(told(put("a", "pairs 2\nrepeat 256\ndo 0 t\nend\ncross 0 1\n")), [[-9]])
        self.assertEqual(told(put("a", "pairs 2\ncross 0 4096\n")), [[-9]])

    def test_refused_put_leaves_all_as_it_was(self):
        for text in ("", "pairs 2\nx\n", "pairs 3\n", "pairs 2\ntwist 0 513\n", "pairs 2\ntwist 0 5000\n"):
            given = told(work([0]), put("a", text), workby("a", 1), put("a", "pairs 2\ncross 0 1\n"), undo(), undo(), undo())
            self.assertEqual(given[2:], [[-2], [0], [0], [0], [-2]])

    def test_put_leaves_the_piece(self):
        self.assertEqual(told(work([0]), put("a", "pairs 2\ncross 0 5\n"), work([])), [[0, 1], [0], [0, 1]])

    def test_a_text_knows_no_names_of_others(self):
        given = told(put("a", "pairs 2\nlet s = c\n"), put("b", "pairs 2\ndo 0 s\n"), put("b", "pairs 2\nlet s = l\n"))
        self.assertEqual(given, [[0], [-5, 2, 1], [0]])
        self.assertEqual(told(put("a", "pairs 2\n"), put("b", "pairs 2\ndo 0 a\n")), [[0], [-5, 2, 1]])
