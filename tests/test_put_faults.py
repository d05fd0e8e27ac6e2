"""put: the faults of texts, each with its kind and line."""

import unittest

from helper import NO_NAMES, begin, codes, last, lines, put, told

NO_LINE, NAME, PAIR, REPEAT, MANY = 1, 2, 3, 4, 5


def numbered(tree, rows):
    """Write the tree's rows behind these, and give it with each line's number."""
    if isinstance(tree, int):
        rows.append("twist 0 %d" % tree)
        return (len(rows) - 1, tree)
    rows.append("repeat %d" % tree[0])
    within = [numbered(one, rows) for one in tree[1]]
    rows.append("end")
    return (tree[0], within)


def worked_lines(tree):
    """All times that lines are worked, one after another: the line and how many acts."""
    if isinstance(tree[1], int):
        yield tree
    elif tree[1]:
        for turn in range(tree[0]):
            for one in tree[1]:
                yield from worked_lines(one)


def first_past(tree, most):
    acts = 0
    for line, size in worked_lines(tree):
        acts += size
        if acts > most:
            return line


class Faults(unittest.TestCase):
    def given(self, text, pairs=3):
        return last(begin(pairs), put("p", text))

    def fault(self, kind, line, text):
        self.assertEqual(self.given(text), [-5, kind, line], text)

    def right(self, *rows):
        self.assertEqual(self.given(lines("pairs 3", *rows)), [0], rows)

    def wrong_row(self, kind, row):
        """The row has the fault as line 1, as line 3, and whatever stands behind it."""
        self.fault(kind, 1, lines("pairs 3", row))
        self.fault(kind, 3, lines("pairs 3", "let aa = c", "do 0 aa", row, "pairs 3", "nothing"))
        self.fault(kind, 2, lines("pairs 3", "twist 0 1", row) + "more")


class NoLine(Faults):
    def test_first_line(self):
        wrong = ("", "pairs", "pairs 0", "pairs 33", "pairs 03", "pairs 99999", "pairs 100000", "pairs x", "pairs 3 3",
                 "pairs -3", "pairs  3", " pairs 3", "pairs 3 ", "Pairs 3", "pair 3", "let a = c", "do 0 c", "twist 0 1",
                 "repeat 2", "end", "pairs\t3", "pairs 3\r", "pairs 3\x00", "3 pairs", "pairs 3*c")
        for row in wrong:
            self.fault(NO_LINE, 0, row + "\n")
            self.fault(NO_LINE, 0, lines(row, "pairs 3", "do 0 c"))

    def test_pairs_again(self):
        for row in ("pairs 3", "pairs 2", "pairs", "pairs 40"):
            self.wrong_row(NO_LINE, row)

    def test_no_such_line(self):
        for row in ("", " ", "work 0", "c", "0", "Do 0 c", "DO 0 c", "ends", "lets a = c", "?", "*", "=", "do", "let"):
            self.wrong_row(NO_LINE, row)

    def test_blanks(self):
        rows = ("let b = c", "do 0 c t", "twist 0 1", "cross 0 1", "repeat 2")
        for row in rows:
            self.wrong_row(NO_LINE, " " + row)
            self.wrong_row(NO_LINE, row + " ")
            self.wrong_row(NO_LINE, row.replace(" ", "\t", 1))
            self.wrong_row(NO_LINE, row + "\r")
            for k in range(len(row)):
                if row[k] == " ":
                    self.wrong_row(NO_LINE, row[:k] + " " + row[k:])
        self.fault(NO_LINE, 2, lines("pairs 3", "let a = c", "row a 0 "))
        self.fault(NO_LINE, 2, lines("pairs 3", "let a = c", "row  a 0"))
        self.fault(NO_LINE, 2, lines("pairs 3", "repeat 2", "end "))
        self.fault(NO_LINE, 2, lines("pairs 3", "repeat 2", " end"))

    def test_other_bytes(self):
        for code in list(range(10)) + list(range(11, 32)) + [33, 43, 64, 91, 96, 123, 127, 128, 195, 255]:
            self.assertEqual(self.given(codes("pairs 3\ndo 0 ") + [code, 10]), [-5, NO_LINE, 1])
            self.assertEqual(self.given(codes("pairs 3\ntwist 0 1") + [code, 10]), [-5, NO_LINE, 1])

    def test_let(self):
        for row in ("let", "let a", "let a =", "let a c", "let a = ", "let = c", "let a == c", "let a = = c", "let a=c",
                    "let 1 = c", "let A = c", "let abcdefghijklm = c", "let a b = c", "let a* = c", "let 2*a = c"):
            self.wrong_row(NO_LINE, row)
        for word in NO_NAMES:
            self.wrong_row(NO_LINE, "let %s = c" % word)

    def test_items(self):
        wrong = ("0*c", "00*c", "01*c", "100000*c", "999999*c", "*c", "2*", "*", "2*3*c", "2**c", "c*2", "-1*c", "2*2",
                 "2", "x1", "X", "C", "abcdefghijklm", "2*abcdefghijklm", "=", "c,", "2*c*", "a*c", "c2", "1 *c", "2* c")
        for item in wrong + tuple(word for word in NO_NAMES if len(word) > 1):
            for row in ("let b = %s", "do 0 %s", "do 0 c %s", "do 0 %s c", "let b = c %s t"):
                self.wrong_row(NO_LINE, row % item)
        for word in NO_NAMES:
            if len(word) > 1:
                self.wrong_row(NO_LINE, "do 0 3*" + word)

    def test_do(self):
        for row in ("do", "do 0", "do c", "do c 0", "do 00 c", "do 01 c", "do 100000 c", "do x c", "do -1 c", "do 0*c"):
            self.wrong_row(NO_LINE, row)

    def test_row(self):
        wrong = ["row", "row a", "row 0", "row 0 a", "row a b", "row a 00", "row a 01", "row a 0 x", "row a 0 100000",
                 "row 2*a 0", "row A 0", "row abcdefghijklm 0", "row a = 0", "row a a 0", "row a 0 02"]
        wrong += ["row %s 0" % word for word in NO_NAMES]
        for row in wrong:
            self.fault(NO_LINE, 2, lines("pairs 3", "let a = c", row))

    def test_twist_and_cross(self):
        for verb in ("twist", "cross"):
            for rest in ("", " 0", " 0 0", " 0 00", " 0 01", " 00 1", " 0 100000", " 100000 1", " 0 1 1", " x 1", " 0 x",
                         " 0 -1", " 1*0 1", " 0 c", " a 0"):
                self.wrong_row(NO_LINE, verb + rest)

    def test_repeat_and_end(self):
        for row in ("repeat", "repeat 0", "repeat 00", "repeat 01", "repeat 100000", "repeat x", "repeat 1 1", "repeat -1"):
            self.wrong_row(NO_LINE, row)
        self.fault(NO_LINE, 2, lines("pairs 3", "repeat 1", "end 1"))
        self.fault(NO_LINE, 2, lines("pairs 3", "repeat 1", "end end"))

    def test_numbers_that_are_right(self):
        self.right("let a = 99999*c", "repeat 99999", "end", "let b = 1*c")
        self.right("repeat 1", "end", "twist 0 1", "cross 0 1", "do 1 1*c", "twist 2 10")
        self.fault(MANY, 1, lines("pairs 3", "twist 0 99999"))
        self.fault(PAIR, 1, lines("pairs 3", "twist 99999 1"))


class Names(Faults):
    def test_let_before(self):
        self.fault(NAME, 2, lines("pairs 3", "let a = c", "let a = c"))
        self.fault(NAME, 3, lines("pairs 3", "let a = c", "let b = c", "let a = b"))
        self.fault(NAME, 4, lines("pairs 3", "repeat 2", "let a = c", "end", "let a = c"))
        self.fault(NAME, 3, lines("pairs 3", "let a = c", "repeat 2", "let a = c", "end"))

    def test_not_let_before(self):
        for row in ("do 0 a", "do 0 c a", "do 0 2*a t", "let a = a", "let b = a", "let b = c 3*a", "row a 0"):
            self.wrong_row(NAME, row)
        self.fault(NAME, 1, lines("pairs 3", "do 0 a", "let a = c"))
        self.fault(NAME, 1, lines("pairs 3", "row a 0", "let a = c"))
        self.fault(NAME, 2, lines("pairs 3", "let ab = c", "do 0 a"))

    def test_name_of_a_let_within_a_repeat_before_it(self):
        self.fault(NAME, 2, lines("pairs 3", "repeat 2", "do 0 a", "let a = c", "end"))


class Pairs(Faults):
    def test_no_such_pair(self):
        for row in ("do 2 c", "do 3 l", "do 99999 c", "twist 3 1", "twist 99999 1", "cross 2 1", "cross 3 1", "cross 99999 2"):
            self.wrong_row(PAIR, row)
        self.right("do 1 c", "twist 2 1", "cross 1 1", "let a = c", "row a 1")

    def test_one_pair(self):
        for row in ("do 0 l", "cross 0 1"):
            self.assertEqual(self.given(lines("pairs 1", row), 1), [-5, PAIR, 1])
        self.assertEqual(self.given(lines("pairs 1", "let a = l", "row a 0"), 1), [-5, PAIR, 2])
        self.assertEqual(self.given(lines("pairs 1", "twist 0 1"), 1), [0])
        self.assertEqual(self.given(lines("pairs 1", "twist 1 1"), 1), [-5, PAIR, 1])

    def test_pairs_of_the_text_count(self):
        self.assertEqual(self.given(lines("pairs 3", "do 2 c"), 32), [-5, PAIR, 1])
        self.assertEqual(self.given(lines("pairs 32", "do 2 c"), 3), [-6])

    def test_rows(self):
        for places in ("5", "4 5", "0 1", "0 0", "2 0", "0 2 3", "0 2 1", "0 2 5", "0 99999", "0 4 2"):
            self.assertEqual(self.given(lines("pairs 6", "let a = c", "row a " + places), 6), [-5, PAIR, 2], places)
        for places in ("0", "4", "0 2", "0 2 4", "1 3", "0 4", "1 4"):
            self.assertEqual(self.given(lines("pairs 6", "let a = c", "row a " + places), 6), [0], places)


class Repeats(Faults):
    def test_end_without_a_repeat(self):
        self.wrong_row(REPEAT, "end")
        self.fault(REPEAT, 3, lines("pairs 3", "repeat 2", "end", "end"))

    def test_eight_and_nine_deep(self):
        self.right(*["repeat 1"] * 8, *["end"] * 8)
        self.fault(REPEAT, 9, lines("pairs 3", *["repeat 1"] * 9, *["end"] * 9))
        self.fault(REPEAT, 11, lines("pairs 3", *["repeat 1"] * 8, "twist 0 1", "let a = c", "repeat 1"))
        self.right(*["repeat 1"] * 8, "end", "repeat 1", *["end"] * 8, *["repeat 1"] * 8, *["end"] * 8)

    def test_not_ended(self):
        self.fault(REPEAT, 2, lines("pairs 3", "repeat 2"))
        self.fault(REPEAT, 4, lines("pairs 3", "repeat 2", "repeat 2", "end"))
        self.fault(REPEAT, 9, lines("pairs 3", *["repeat 1"] * 8))


class Order(Faults):
    def test_least_kind_of_a_line(self):
        self.fault(NO_LINE, 1, lines("pairs 3", "do 9 a 0*c"))
        self.fault(NO_LINE, 1, lines("pairs 3", "row b 9 x"))
        self.fault(NO_LINE, 1, lines("pairs 3", "twist 9 0"))
        self.fault(NO_LINE, 9, lines("pairs 3", *["repeat 1"] * 8, "repeat 0"))
        self.fault(NO_LINE, 1, lines("pairs 3", "end end"))
        self.fault(NO_LINE, 2, lines("pairs 3", "let a = c", "let a = 0*c"))
        self.fault(NAME, 1, lines("pairs 3", "do 9 a"))
        self.fault(NAME, 1, lines("pairs 3", "row b 9"))
        self.fault(NAME, 1, lines("pairs 3", "row b 1 0"))

    def test_first_line_with_a_fault(self):
        faulty = (("nothing", NO_LINE), ("do 0 b", NAME), ("do 9 c", PAIR), ("end", REPEAT))
        for first, kind in faulty:
            for second, other in faulty:
                self.fault(kind, 2, lines("pairs 3", "twist 0 1", first, second))

    def test_lines_before_what_stands_behind_all(self):
        self.fault(PAIR, 2, lines("pairs 3", "repeat 2", "do 9 c") + "more")
        self.fault(NO_LINE, 3, lines("pairs 3", "repeat 2", "do 0 c") + "more")
        self.fault(REPEAT, 3, lines("pairs 3", "repeat 2", "do 0 c"))

    def test_too_many_acts_last_of_all(self):
        many = lines("pairs 3", "twist 0 99999")
        self.fault(MANY, 1, many)
        self.fault(NO_LINE, 2, many + "nothing\n")
        self.fault(NAME, 3, many + lines("twist 0 1", "do 0 a"))
        self.fault(PAIR, 2, many + "do 9 c\n")
        self.fault(REPEAT, 2, many + "end\n")
        self.fault(NO_LINE, 2, many + "twist 0 1")
        self.fault(REPEAT, 3, many + "repeat 2\n")

    def test_no_line_at_all(self):
        self.fault(NO_LINE, 0, "")
        self.fault(NO_LINE, 0, "pairs 3")
        self.fault(NO_LINE, 0, "x")
        self.fault(NO_LINE, 0, "\n")

    def test_bytes_behind_the_last_line_feed(self):
        self.fault(NO_LINE, 1, "pairs 3\nend")
        self.fault(NO_LINE, 1, "pairs 3\n ")
        self.fault(NO_LINE, 2, "pairs 3\ntwist 0 1\ntwist 0 1")
        self.fault(NO_LINE, 1, "pairs 3\n\n")


class Bytes(Faults):
    def text_of_size(self, size):
        """A text without a fault, of just so many bytes."""
        count, more = divmod(size - len("pairs 3\n"), len("repeat 1\nend\n"))
        return "pairs 3\n" + "repeat 10\nend\n" * more + "repeat 1\nend\n" * (count - more)

    def test_16384_and_16385_bytes(self):
        for size, expected in ((16383, [0]), (16384, [0]), (16385, [-5, 1, 0]), (17000, [-5, 1, 0])):
            text = self.text_of_size(size)
            self.assertEqual(len(text), size)
            self.assertEqual(self.given(text), expected)

    def test_too_many_bytes_are_not_looked_at(self):
        self.fault(NO_LINE, 0, self.text_of_size(16380) + "do 9 c\n")
        self.fault(NO_LINE, 0, "pairs 3\n" + "do 9 c\n" * 2400)
        self.fault(PAIR, 1, "pairs 3\n" + "do 9 c\n" * 2300)
        self.fault(NO_LINE, 0, "a" * 16385)
        self.assertEqual(told(put("p", "a" * 16384)), [[-5, NO_LINE, 0]])


class TooManyActs(Faults):
    def test_4096_and_4097(self):
        self.assertEqual(self.given(lines("pairs 3", "twist 0 4096")), [-9])
        self.fault(MANY, 1, lines("pairs 3", "twist 0 4097"))
        self.assertEqual(self.given(lines("pairs 3", "cross 1 4095", "twist 2 1")), [-9])
        self.fault(MANY, 3, lines("pairs 3", "cross 1 4095", "twist 2 1", "twist 0 1", "twist 1 1"))
        self.assertEqual(self.given(lines("pairs 3", "do 0 2048*t")), [-9])
        self.fault(MANY, 1, lines("pairs 3", "do 0 2048*t c"))
        self.fault(MANY, 2, lines("pairs 3", "do 0 2047*t c", "do 0 t"))

    def test_4096_and_4097_in_repeats(self):
        self.assertEqual(self.given(lines("pairs 3", "repeat 4096", "cross 0 1", "end")), [-9])
        self.fault(MANY, 2, lines("pairs 3", "repeat 4097", "cross 0 1", "end"))
        self.assertEqual(self.given(lines("pairs 3", *["repeat 2"] * 8, "cross 0 16", *["end"] * 8)), [-9])
        self.fault(MANY, 9, lines("pairs 3", *["repeat 2"] * 8, "cross 0 17", *["end"] * 8))
        self.fault(MANY, 18, lines("pairs 3", *["repeat 2"] * 8, "cross 0 16", *["end"] * 8, "twist 0 1"))
        self.fault(MANY, 9, lines("pairs 3", *["repeat 99999"] * 8, "cross 0 1", *["end"] * 8))

    def test_4096_and_4097_in_rows(self):
        rows = ["let a = 256*c", "row a " + " ".join(str(k) for k in range(0, 32, 2))]
        self.assertEqual(self.given(lines("pairs 32", *rows), 32), [-9])
        self.assertEqual(self.given(lines("pairs 32", *rows, "twist 0 1"), 32), [-5, MANY, 3])
        rows[0] = "let a = 257*c"
        self.assertEqual(self.given(lines("pairs 32", *rows), 32), [-5, MANY, 2])
        rows[0] = "let a = 99999*c"
        self.assertEqual(self.given(lines("pairs 32", *rows), 32), [-5, MANY, 2])

    def test_line_within_a_repeat_worked_several_times(self):
        rows = ["pairs 3", "repeat 3", "twist 0 1000", "cross 0 1000", "end", "twist 1 1"]
        self.fault(MANY, 2, lines(*rows))
        rows[1] = "repeat 2"
        self.fault(MANY, 6, lines(*rows, "twist 0 96"))
        self.assertEqual(self.given(lines(*rows, "twist 0 95")), [-9])
        rows[2] = "twist 0 1100"
        self.fault(MANY, 3, lines(*rows))
        rows[2] = "twist 0 3050"
        self.fault(MANY, 2, lines(*rows))

    def test_line_within_nested_repeats(self):
        """Trees of repeats, (times, what's within), and sizes of twist lines, against working line by line."""
        told_lines = []
        for a in (1, 2, 7, 64, 1365, 2048):
            for b in (1, 3, 511, 1000):
                for c in (1, 4, 4095):
                    tree = (99999, [a, (3, [b, (2, [c]), (99999, [])]), (1, [b, a])])
                    rows = ["pairs 3"]
                    worked = numbered(tree, rows)
                    line = first_past(worked, 4096)
                    told_lines.append(line)
                    self.fault(MANY, line, lines(*rows))
        self.assertEqual(sorted(set(told_lines)), [2, 4, 6, 12, 13])

    def test_repeats_that_work_nothing_are_no_hindrance(self):
        empty = ["repeat 99999"] * 7 + ["end"] * 7
        self.fault(MANY, 2, lines("pairs 3", "repeat 99999", "twist 0 1", *empty, "end"))
        self.fault(MANY, 17, lines("pairs 3", *["repeat 99999"] * 8, *["end"] * 8, "twist 0 4097"))

    def test_name_of_very_many_acts_worked(self):
        rows = ["let aa = 99999*c"]
        rows += ["let a%s = 99999*a%s" % (chr(k), chr(k - 1)) for k in range(98, 123)]
        self.assertEqual(self.given(lines("pairs 3", *rows)), [0])
        self.fault(MANY, 27, lines("pairs 3", *rows, "do 0 az", "do 0 az"))
        self.fault(MANY, 27, lines("pairs 3", *rows, "row az 1"))
        self.fault(MANY, 28, lines("pairs 3", *rows, "do 0 c", "do 0 l aa"))
        self.fault(MANY, 28, lines("pairs 3", *rows, "repeat 2", "do 0 az", "end"))

    def test_names_that_come_to_just_so_many(self):
        rows = ["let a = 64*c", "let b = 63*a 63*c", "do 0 b", "do 0 c"]
        self.assertEqual(self.given(lines("pairs 3", *rows)), [-9])
        self.fault(MANY, 5, lines("pairs 3", *rows, "do 0 c"))
        self.fault(MANY, 4, lines("pairs 3", *rows[:3], "do 0 t"))
        self.assertEqual(self.given(lines("pairs 3", "let a = 64*c", "do 0 64*a")), [-9])
        self.fault(MANY, 2, lines("pairs 3", "let a = 64*c", "do 0 64*a c"))
