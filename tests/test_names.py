"""Names to be put, patterns' names, and how many patterns there may be: put, pins, keep, drop."""

import unittest

from helper import NO_NAMES, back, codes, drop, keep, last, mend, pattern_is, pins, put, told, undo, work, workby

EIGHT = [keep("a" + letter) for letter in "abcdefgh"]


def putting(name):
    """Each call that puts a name, with all else right."""
    return (put(name, "pairs 2\n"), pins(name, []), keep(name))


def wrongly_putting(name):
    """Each call that puts a name and has more that's wrong."""
    return (put(name, "wrong"), put(name, "pairs 3\n"), put(name, "pairs 2\ntwist 0 513\n"),
            pins(name, [[0, 1]] * 65), pins(name, [[0, 0]]), pins(name, [[1, 0]]))


class NameToBePut(unittest.TestCase):
    def test_names(self):
        for name in ("a", "z", "s", "abcdefghijkl", "zzzzzzzzzzzz", "ends", "pair", "lets", "cc", "lr", "rows", "dodo"):
            for call in putting(name):
                self.assertEqual(told(call, drop(name)), [[0], [0]])

    def test_no_names(self):
        wrong = ["", "abcdefghijklm", "a" * 40, "A", "Ab", "a b", " a", "a ", "a1", "1", "a\n", "\n", "a*", "=", "?", "a?"]
        wrong += ["a" + sign for sign in "`{@[\x00\x7f\x80\xe1\xff"] + list(NO_NAMES)
        for name in wrong:
            for call in putting(name) + wrongly_putting(name):
                self.assertEqual(told(call), [[-1]], name)

    def test_every_byte(self):
        for code in range(256):
            given = last(keep([97, code]))
            self.assertEqual(given, [0] if 97 <= code <= 122 else [-1])

    def test_name_that_is_there(self):
        for call in putting("a") + wrongly_putting("a"):
            self.assertEqual(told(keep("a"), call), [[0], [-3]])
        for call in putting("aa") + wrongly_putting("aa"):
            self.assertEqual(told(*EIGHT, call)[8:], [[-3]])

    def test_like_names_are_others(self):
        self.assertEqual(told(keep("ab"), keep("a"), keep("abc"), keep("ba")), [[0]] * 4)

    def test_ninth_pattern(self):
        self.assertEqual(told(*EIGHT), [[0]] * 8)
        for call in putting("b") + wrongly_putting("b"):
            self.assertEqual(told(*EIGHT, call)[8:], [[-9]])
        for call in putting("b"):
            self.assertEqual(told(*EIGHT, drop("ac"), call)[8:], [[0], [0]])

    def test_no_name_before_ninth_pattern(self):
        for call in putting("c") + wrongly_putting(""):
            self.assertEqual(told(*EIGHT, call)[8:], [[-1]])


class PatternsName(unittest.TestCase):
    def test_name_that_is_not_there(self):
        for name in ("a", "", "c", "A", "ab", "abcdefghijklm", [0], [255] * 40):
            for call in (drop(name), workby(name, 0), workby(name, 1000), mend(name)):
                self.assertEqual(told(keep("b"), call), [[0], [-2]])

    def test_unlike_bytes_are_unlike_names(self):
        self.assertEqual(told(keep("ab"), drop([97, 98 + 128])), [[0], [-2]])
        self.assertEqual(told(keep("ab"), drop(codes("ab"))), [[0], [0]])


class KeepAndDrop(unittest.TestCase):
    def test_keep_is_the_piece_of_then(self):
        calls = [work([0, 64, 1]), keep("a"), work([64]), keep("b"), back([1, 64])]
        self.assertTrue(pattern_is("a", [0, 64, 1], *calls))
        self.assertTrue(pattern_is("b", [0, 64, 1, 64], *calls))

    def test_keep_of_no_acts(self):
        self.assertTrue(pattern_is("a", [], keep("a"), work([0])))

    def test_keep_of_512_acts(self):
        self.assertTrue(pattern_is("a", [0] * 512, work([0] * 512), keep("a"), back([0])))

    def test_keep_leaves_the_piece(self):
        self.assertEqual(told(work([0, 64]), keep("a"), back([0, 64])), [[0, 2], [0], [0, 0]])

    def test_drop_takes_that_one_alone(self):
        calls = [work([0]), keep("a"), work([64]), keep("b"), drop("a")]
        self.assertEqual(told(*calls, mend("a"), drop("a"))[4:], [[0], [-2], [-2]])
        self.assertTrue(pattern_is("b", [0, 64], *calls))
        self.assertTrue(pattern_is("a", [0], *calls, undo()))

    def test_drop_and_put_anew(self):
        calls = [keep("a"), drop("a"), put("a", "pairs 2\ncross 0 2\n")]
        self.assertTrue(pattern_is("a", [64, 64], *calls))
        self.assertTrue(pattern_is("a", [], *calls, undo(), undo()))
