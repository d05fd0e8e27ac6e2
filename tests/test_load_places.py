"""load's places: bytes that tell no pillow have one place, the first from the left."""

import unittest

from helper import NO_NAMES, begin, first_working, load, piece, save, saved, told

MARK = [76, 67, 80, 49]
GOOD = saved(4, [3, 64, 0], [("ab", [0, 2, 66, 2]), ("abc", []), ("lacemaker", [65])])
# Where its parts begin: the piece's count, the names' lengths, the patterns' counts.
PIECE, FIRST, FIRST_COUNT, SECOND, SECOND_COUNT, THIRD, THIRD_COUNT = 6, 13, 16, 24, 28, 32, 42
MANY = ([1, 2, 0, 0], [255, 2, 0, 0], [0, 3, 0, 0], [255, 255, 0, 0], [0, 0, 1, 0], [0, 0, 0, 1], [0, 2, 1, 0], [1, 0, 0, 128],
        [255, 255, 255, 255], [5, 0, 0, 1])


def changed(place, *others):
    """The good bytes with others from this place on."""
    return GOOD[:place] + list(others) + GOOD[place + len(others):]


class Places(unittest.TestCase):
    def place(self, expected, bytes_of_pillow):
        self.assertEqual(told(load(bytes_of_pillow)), [[-5, expected]], bytes_of_pillow[:60])
        self.assertEqual(told(begin(32), load(bytes_of_pillow)), [[0], [-5, expected]], bytes_of_pillow[:60])

    def good(self, bytes_of_pillow):
        self.assertEqual(told(load(bytes_of_pillow), save()), [[0], [0] + list(bytes_of_pillow)])


class Beginning(Places):
    def test_parts_of_the_good_bytes(self):
        self.good(GOOD)
        self.assertEqual(GOOD[PIECE:PIECE + 4], [3, 0, 0, 0])
        self.assertEqual(GOOD[FIRST:FIRST + 4], [2, 97, 98, 4])
        self.assertEqual(GOOD[SECOND:SECOND + 5], [3, 97, 98, 99, 0])
        self.assertEqual(GOOD[THIRD:THIRD + 2], [9, 108])
        self.assertEqual((FIRST_COUNT, SECOND_COUNT, THIRD_COUNT), (FIRST + 3, SECOND + 4, THIRD + 10))
        self.assertEqual(GOOD[THIRD_COUNT:], [1, 0, 0, 0, 65])

    def test_no_bytes(self):
        self.place(0, [])

    def test_mark(self):
        for k in range(4):
            for code in (0, 48, 75, 77, 255, MARK[k] + 1, MARK[k] - 1, MARK[k] + 128, MARK[k] ^ 32):
                if code != MARK[k]:
                    self.place(k, changed(k, code))
                    self.place(k, MARK[:k] + [code])
                    self.place(k, MARK[:k] + [code] * 20)

    def test_mark_missing(self):
        for k in range(4):
            self.place(k, MARK[:k])
            self.place(k, MARK[:k] + GOOD[4:])

    def test_first_wrong_byte_of_the_mark(self):
        self.place(0, [0, 0, 0, 0])
        self.place(1, [76, 0, 80, 0])
        self.place(2, [76, 67, 0, 0, 0, 9])
        self.place(1, [76, 80, 67, 49])

    def test_pairs(self):
        for n in (0, 33, 34, 64, 128, 255):
            self.place(4, MARK + [n])
            self.place(4, saved(n, []))
            self.place(4, changed(4, n))
        self.place(4, MARK)
        for n in range(1, 33):
            self.good(saved(n, []))

    def test_number_of_patterns(self):
        for count in (9, 10, 128, 255):
            self.place(5, MARK + [4, count])
            self.place(5, changed(5, count))
        rows = [("a" * (k + 1), []) for k in range(9)]
        self.place(5, saved(2, [], rows))
        self.good(saved(2, [], rows[:8]))
        self.place(5, MARK + [4])

    def test_number_of_patterns_that_is_not_that_of_the_bytes(self):
        self.place(len(GOOD), changed(5, 4))
        self.place(THIRD, changed(5, 2))
        self.place(SECOND, changed(5, 1))
        self.place(FIRST, changed(5, 0))


class Counts(Places):
    def test_above_512_in_the_piece(self):
        for count in MANY:
            self.place(6, changed(PIECE, *count))
            self.place(6, GOOD[:PIECE] + count)
            self.place(6, GOOD[:PIECE] + count + [0] * 700)

    def test_above_512_in_a_pattern(self):
        for count in MANY:
            for place in (FIRST_COUNT, SECOND_COUNT, THIRD_COUNT):
                self.place(place, changed(place, *count))
                self.place(place, GOOD[:place] + count)
                self.place(place, GOOD[:place] + count + [0] * 700)

    def test_512(self):
        self.good(saved(2, [0] * 512, [("a", [64] * 512)]))
        self.place(6, saved(2, [0] * 513))
        self.place(12, saved(2, [], [("a", [0] * 513)]))
        self.assertEqual(saved(2, [], [("a", [0] * 513)])[12:14], [1, 2])

    def test_cut_off_within_the_four_bytes(self):
        for count in MANY + ([0, 0, 0, 0], [255, 1, 0, 0]):
            for place in (PIECE, FIRST_COUNT, SECOND_COUNT, THIRD_COUNT):
                for size in range(4):
                    self.place(place + size, GOOD[:place] + count[:size])

    def test_more_acts_told_than_there_are(self):
        self.place(10, saved(2, [])[:6] + [1, 0, 0, 0])
        self.place(12, saved(2, [])[:6] + [3, 0, 0, 0, 0, 0])
        self.place(6 + 4 + 511, saved(2, [0] * 512)[:-1])


class Acts(Places):
    def test_no_act_of_so_many_pairs(self):
        for n in (1, 2, 4, 31, 32):
            wrong = sorted(set(range(n, 64)) | {64 + n - 1, 95, 96, 127, 128, 254, 255})
            for act in wrong:
                self.place(10, saved(n, [act]))
                self.place(10, saved(n, [act, 0, 0]))
                self.place(11, saved(n, [0, act, 0]))
                self.place(12, saved(n, [0, 0, act]))
                self.place(521, saved(n, [0] * 511 + [act]))
                self.place(16, saved(n, [], [("a", [act])]))
                self.place(18, saved(n, [], [("a", [0, 0, act])]))
            right = list(range(n)) + list(range(64, 64 + n - 1))
            for act in right:
                self.good(saved(n, [act], [("a", [act] * 3)]))

    def test_act_of_more_pairs(self):
        self.good(saved(5, [4, 67]))
        self.place(10, saved(4, [4, 67]))
        self.place(10, saved(4, [67, 4]))
        self.place(11, saved(4, [3, 67]))

    def test_no_form(self):
        for n, acts, wrong in ((2, [1, 0], 1), (2, [0, 1, 0], 2), (3, [65, 64], 1), (3, [65, 0], 1), (3, [64, 2], 1),
                               (4, [64, 0, 3], 2), (4, [3, 64, 0, 3], 3), (4, [64, 3], 1), (4, [0, 64, 1, 0], 3),
                               (4, [2, 1, 0], 1), (4, [0, 1, 3, 2, 0], 3), (3, [2] * 100 + [0], 100),
                               (2, [0, 64] * 254 + [1, 0], 509), (32, [94, 31, 0], 2), (32, [31, 94, 31, 29], 3)):
            self.assertNotEqual(first_working(acts[:wrong + 1]), acts[:wrong + 1])
            self.assertEqual(first_working(acts[:wrong]), acts[:wrong])
            self.place(10 + wrong, saved(n, acts))
            self.place(10 + wrong, saved(n, acts + [255]))
            self.place(16 + wrong, saved(n, [], [("a", acts)]))
            self.place(24 + wrong, saved(n, [0], [("ab", []), ("b", acts)]))
            self.good(saved(n, first_working(acts), [("a", first_working(acts))]))

    def test_act_that_is_none_where_the_bytes_end_later(self):
        self.place(11, saved(2, [])[:6] + [9, 0, 0, 0, 0, 2, 0])
        self.place(11, saved(2, [])[:6] + [9, 0, 0, 0, 1, 0, 0])

    def test_every_form_of_small_pillows(self):
        for acts in small_workings((0, 1, 2, 64, 65), 4):
            right = 0
            while right < len(acts) and first_working(acts[:right + 1]) == acts[:right + 1]:
                right += 1
            expected = [0] if right == len(acts) else [-5, 10 + right]
            self.assertEqual(told(load(saved(3, acts))), [expected])


def small_workings(acts, longest):
    found = [[]]
    for one in found:
        if len(one) < longest:
            found.extend(one + [act] for act in acts)
    return found


class Names(Places):
    def test_length(self):
        for size in (0, 13, 14, 97, 128, 255):
            for place in (FIRST, SECOND, THIRD):
                self.place(place, changed(place, size))
                self.place(place, GOOD[:place] + [size])
                self.place(place, GOOD[:place] + [size] + [97] * 300)
        self.good(saved(2, [], [("a", []), ("b" * 12, [])]))
        self.place(10, saved(2, [], [("a" * 13, [])]))
        self.place(10, saved(2, [], [("", [])]))

    def test_bytes_ending_within_a_name_and_behind_it(self):
        for place in (FIRST, SECOND, THIRD):
            for size in range(GOOD[place] + 1):
                self.place(place + 1 + size, GOOD[:place + 1 + size])

    def test_name_whose_bytes_are_not_all_there(self):
        """It isn't judged yet, whatever is wrong with it."""
        self.place(FIRST + 2, GOOD[:FIRST] + [2, 65])
        self.place(FIRST + 1, GOOD[:FIRST] + [12])
        self.place(FIRST + 12, GOOD[:FIRST] + [12] + [0] * 11)
        self.place(SECOND + 2, GOOD[:SECOND] + [2, 97])
        self.place(FIRST, GOOD[:FIRST] + [2, 65, 65])
        self.place(FIRST, GOOD[:FIRST] + [12] + [0] * 12)

    def test_no_names(self):
        wrong = list(NO_NAMES) + ["A", "Ab", "aB", "a b", " a", "a ", "a1", "1", "a\n", "\n", "a*", "=", "?", "a?", "b`", "b{"]
        wrong += ["b" + sign for sign in "@[\x00\x7f\x80\xe1\xff"]
        for name in wrong:
            self.place(10, saved(2, [], [(name, [])]))
            self.place(16, saved(2, [0] * 6, [(name, [])]))
            self.place(16, saved(2, [], [("a", []), (name, [])]))
        for name in ("ends", "pair", "cc", "cl", "lets", "doo", "row" * 4, "z"):
            self.good(saved(2, [], [("a", []), (name, [])]))

    def test_every_byte(self):
        for code in range(256):
            bytes_of_pillow = saved(2, [], [([98, code, 98], [])])
            if 97 <= code <= 122:
                self.good(bytes_of_pillow)
            else:
                self.place(10, bytes_of_pillow)

    def test_same_as_the_one_before(self):
        self.place(16, saved(2, [], [("a", []), ("a", [])]))
        self.place(17, saved(2, [], [("a", [0]), ("a", [0])]))
        self.place(22, saved(2, [], [("a", []), ("b", []), ("b", []), ("d", [])]))
        self.place(27, saved(2, [], [("zzzzzzzzzzzz", []), ("zzzzzzzzzzzz", [])]))

    def test_comes_before_the_one_before(self):
        for one, other in (("b", "a"), ("ab", "a"), ("ab", "aa"), ("b", "ab"), ("b", "aaaaaaaaaaaa"), ("abd", "abc"),
                           ("z", "yz"), ("abc", "abb"), ("ba", "az")):
            self.place(15 + len(one), saved(2, [], [(one, []), (other, [])]))
            self.good(saved(2, [], [(other, []), (one, [])]))
        self.place(22, saved(2, [], [("a", []), ("d", []), ("b", [])]))
        self.place(22, saved(2, [], [("b", []), ("d", []), ("a", [])]))

    def test_pattern_of_no_name_before_its_acts(self):
        self.place(10, saved(2, [], [("c", [9])]))
        self.place(11, saved(2, [0], [("", [])]) + [1, 2, 3])


class Ends(Places):
    def test_bytes_ending_too_early_at_each_place(self):
        for bytes_of_pillow in (GOOD, saved(1, []), saved(32, [31, 94], [("a", [0] * 300), ("zzzzzzzzzzzz", [94, 31])])):
            self.good(bytes_of_pillow)
            for size in range(len(bytes_of_pillow)):
                self.place(size, bytes_of_pillow[:size])

    def test_byte_behind_all(self):
        for code in (0, 1, 10, 76, 255):
            self.place(len(GOOD), GOOD + [code])
            self.place(len(GOOD), GOOD + [code] * 100)
            self.place(10, saved(2, []) + [code])
        self.place(len(GOOD), GOOD + GOOD)


class TwoFaults(Places):
    def test_as_they_stand(self):
        self.place(1, [76, 0, 80, 49, 0, 9])
        self.place(4, MARK + [33, 9])
        self.place(4, MARK + [0, 0] + [0] * 5)
        self.place(5, MARK + [2, 9, 1, 2, 0, 0])
        self.place(6, MARK + [2, 1, 1, 2, 0, 0, 0])
        self.place(10, saved(2, [9, 1, 0], [("c", [])]))
        self.place(11, saved(2, [1, 0, 9], [("c", [])]))
        self.place(11, saved(2, [1, 9, 1, 0]))
        self.place(10, saved(2, [], [("end", [9]), ("a", [])]))
        self.place(16, saved(2, [], [("b", [9]), ("a", [])]))
        self.place(17, saved(2, [], [("b", [0]), ("a", [9])]))
        self.place(17, saved(2, [], [("b", [0]), ("B", [9])]) + [0])
        self.place(11, saved(2, [0, 2]) + [0])

    def test_the_one_farther_left(self):
        faults = (
            (0, [0]), (2, [0]), (4, [0]), (4, [33]), (5, [9]), (PIECE, [0, 3]), (PIECE + 4, [255]), (PIECE + 5, [2]),
            (FIRST, [0]), (FIRST, [2, 65]), (FIRST_COUNT, [0, 0, 1]), (FIRST_COUNT + 4, [4]), (FIRST_COUNT + 5, [67]),
            (SECOND, [13]), (SECOND, [3, 97, 97]), (SECOND_COUNT, [0, 0, 0, 9]), (THIRD, [9, 97, 97]), (THIRD_COUNT, [1, 2]),
            (THIRD_COUNT + 4, [32]),
        )
        for place, others in faults:
            bytes_of_pillow = changed(place, *others)
            found = place_by_the_words(bytes_of_pillow)
            self.place(found, bytes_of_pillow)
            self.place(found, bytes_of_pillow + [0])
            for later, more in faults:
                if later >= place + len(others) + 4:
                    both = bytes_of_pillow[:later] + more + bytes_of_pillow[later + len(more):]
                    self.place(found, both)
            for size in range(found + 13, len(GOOD)):
                self.place(found, bytes_of_pillow[:size])

    def test_refusal_of_too_many_bytes_first(self):
        self.assertEqual(told(load([0] * 16385)), [[-1]])
        self.assertEqual(told(load([0] * 16384)), [[-5, 0]])


class NoPillow(Exception):
    pass


def place_by_the_words(bytes_of_pillow):
    """The place by another way: every sentence of the place, asked from the left; -1 if it's a pillow."""
    rest = list(bytes_of_pillow)
    size = len(rest)

    def taken(count):
        if len(rest) < count:
            raise NoPillow(size)
        given = rest[:count]
        rest[:count] = []
        return given

    def lace_taken(n):
        at = size - len(rest)
        count = int.from_bytes(bytes(taken(4)), "little")
        if count > 512:
            raise NoPillow(at)
        acts = []
        while len(acts) < count:
            at = size - len(rest)
            acts += taken(1)
            if not (acts[-1] < n or 64 <= acts[-1] <= 62 + n) or first_working(acts) != acts:
                raise NoPillow(at)

    try:
        for k, code in enumerate(MARK):
            if taken(1) != [code]:
                raise NoPillow(k)
        n = taken(1)[0]
        if n not in range(1, 33):
            raise NoPillow(4)
        count = taken(1)[0]
        if count > 8:
            raise NoPillow(5)
        lace_taken(n)
        before = b""
        for turn in range(count):
            at = size - len(rest)
            length = taken(1)[0]
            if length not in range(1, 13):
                raise NoPillow(at)
            name = bytes(taken(length))
            letters = all(97 <= code <= 122 for code in name)
            if not letters or name.decode("ascii") in NO_NAMES or name <= before:
                raise NoPillow(at)
            before = name
            lace_taken(n)
        if rest:
            raise NoPillow(size - len(rest))
    except NoPillow as found:
        return found.args[0]
    return -1


class EveryByteChanged(Places):
    def asked(self, bytes_of_pillow):
        found = place_by_the_words(bytes_of_pillow)
        if found < 0:
            self.assertEqual(told(load(bytes_of_pillow), save()), [[0], [0] + bytes_of_pillow])
        else:
            self.assertEqual(told(load(bytes_of_pillow)), [[-5, found]], bytes_of_pillow)

    def test_another_byte_at_each_place(self):
        others = (0, 1, 2, 3, 4, 8, 9, 12, 13, 32, 33, 63, 64, 65, 66, 67, 97, 98, 99, 100, 122, 123, 128, 255)
        for place in range(len(GOOD)):
            for code in others:
                self.asked(changed(place, code))

    def test_a_byte_more_or_less_at_each_place(self):
        for place in range(len(GOOD)):
            self.asked(GOOD[:place] + GOOD[place + 1:])
            for code in (0, 1, 3, 64, 97, 255):
                self.asked(GOOD[:place] + [code] + GOOD[place:])


class Rest(Places):
    def test_refused_load_leaves_the_piece(self):
        self.assertEqual(told(load(saved(2, [0, 64])), load(saved(2, [1, 0])), piece()), [[0], [-5, 11], [0, 0, 64]])
