"""The interface: how calls are told and answered, and that nothing is changed or kept."""

import unittest

from helper import (
    back, begin, check, coming, drop, flat, keep, load, mend, names, pairs, pattern, piece, pins, put, redo, save, saved, split,
    told, undo, work, workby,
)
from lacepillow.pillow import answers

EVERY_CALL = (
    begin(3), put("a", "pairs 3\ndo 0 c t\n"), pins("b", [[0, 1, 0], [65, 2, 1]]), work([0, 64, 1]), keep("d"),
    workby("a", 2), back([0]), mend("b"), drop("a"), undo(), undo(), mend("a"), redo(), undo(), redo(), pairs(), names(),
    piece(), pattern("b"), check("b"), coming("b"), save(), load(saved(4, [3])), piece(),
)
EVERY_ANSWER = [
    [0], [0], [0], [0, 3], [0], [0, 9], [0, 8], [0, 8, 2], [0], [0], [0], [0, 8, 3], [-2], [0], [0], [0, 3],
    [0, 1, 97, 1, 98, 1, 100], [0, 64, 0, 1], [0, 64, 1], [0, 0, 2, 1, 0], [-6],
    [0] + saved(3, [64, 0, 1], [("a", [64, 0, 1]), ("b", [64, 1]), ("d", [0, 64, 1])]), [0], [0, 3],
]


class Interface(unittest.TestCase):
    def test_numbers_as_they_stand(self):
        self.assertEqual(answers([0, 1, 3, 0]), [1, 0])
        self.assertEqual(answers([0, 1, 33, 0]), [1, -1])
        self.assertEqual(answers([9, 0, 0]), [1, -2])
        self.assertEqual(answers([5, 0, 1, 2, 0, 64]), [2, 0, 2])
        self.assertEqual(answers([5, 0, 1, 1, 9]), [1, -5])
        self.assertEqual(answers([1, 0, 2, 1, 97, 0]), [3, -5, 1, 0])
        self.assertEqual(answers([2, 0, 1, 1, 97]), [1, 0])
        self.assertEqual(answers([2, 0, 2, 1, 97, 2, 0, 0]), [3, -5, 0, 3])
        self.assertEqual(answers([3, 0, 1, 1, 97, 4, 0, 1, 1, 97, 4, 0, 1, 1, 97]), [1, 0, 1, 0, 1, -2])
        self.assertEqual(answers([3, 0, 1, 1, 97, 6, 1, 7, 1, 1, 97]), [1, 0, 2, 0, 0])
        self.assertEqual(answers([7, 0, 1, 0, 7, 0, 1, 1, 0]), [2, 0, 0, 1, -6])
        self.assertEqual(answers([5, 0, 1, 1, 0, 3, 0, 1, 1, 97, 8, 0, 1, 1, 97]), [2, 0, 1, 1, 0, 3, 0, 0, 0])

    def test_every_call_answers(self):
        self.assertEqual(sorted({one[0] for one in EVERY_CALL}), list(range(19)))
        self.assertEqual(told(*EVERY_CALL), EVERY_ANSWER)

    def test_calls_that_tell_as_they_stand(self):
        self.assertEqual(answers([10, 0, 0]), [1, -2])
        self.assertEqual(answers([5, 0, 1, 1, 0, 9, 0, 0, 10, 0, 0]), [2, 0, 1, 1, 0, 1, 0])
        self.assertEqual(answers([11, 0, 0]), [2, 0, 2])
        self.assertEqual(answers([12, 0, 0, 3, 0, 1, 2, 97, 98, 12, 0, 0]), [1, 0, 1, 0, 4, 0, 2, 97, 98])
        self.assertEqual(answers([13, 0, 0, 5, 0, 1, 2, 1, 0, 13, 0, 0]), [1, 0, 2, 0, 2, 3, 0, 0, 1])
        self.assertEqual(answers([14, 0, 1, 1, 97, 3, 0, 1, 1, 97, 14, 0, 1, 1, 97]), [1, -2, 1, 0, 1, 0])
        self.assertEqual(answers([15, 0, 1, 0, 3, 0, 1, 1, 97, 15, 0, 1, 1, 97]), [1, -2, 1, 0, 5, 0, 1, 0, 0, 0])
        self.assertEqual(answers([16, 0, 1, 1, 97, 3, 0, 1, 1, 97, 16, 0, 1, 1, 97]), [1, -2, 1, 0, 1, 0])
        self.assertEqual(answers([3, 0, 1, 1, 97, 5, 0, 1, 1, 0, 16, 0, 1, 1, 97]), [1, 0, 2, 0, 1, 1, -6])
        self.assertEqual(answers([17, 0, 0]), [11, 0, 76, 67, 80, 49, 2, 0, 0, 0, 0, 0])
        self.assertEqual(answers([18, 0, 1, 0]), [2, -5, 0])
        self.assertEqual(answers([18, 0, 1, 10, 76, 67, 80, 49, 3, 0, 0, 0, 0, 0, 11, 0, 0]), [1, 0, 2, 0, 3])

    def test_new_pillow_has_two_pairs_and_nothing_else(self):
        self.assertEqual(told(work([0, 1, 64])), [[0, 3]])
        self.assertEqual(told(work([2])), [[-5]])
        self.assertEqual(told(work([65])), [[-5]])
        self.assertEqual(told(back([])), [[0, 0]])
        self.assertEqual(told(drop("a"), undo()), [[-2], [-2]])

    def test_list_is_not_changed(self):
        calls = flat(EVERY_CALL)
        before = list(calls)
        answers(calls)
        self.assertEqual(calls, before)

    def test_nothing_is_kept_to_the_next_time(self):
        calls = flat(EVERY_CALL)
        first = answers(calls)
        self.assertEqual(answers(calls), first)
        self.assertEqual(told(work([]), mend("a"), undo(), undo()), [[0, 0], [-2], [0], [-2]])

    def test_answer_is_a_new_list_of_whole_numbers(self):
        calls = flat(EVERY_CALL)
        first = answers(calls)
        self.assertIs(type(first), list)
        self.assertEqual({type(number) for number in first}, {int})
        first.append(7)
        self.assertNotEqual(answers(calls), first)

    def test_sixty_calls_of_a_long_list(self):
        calls = []
        for turn in range(30):
            calls += [work([0, 65] * 256), back([65, 0] * 256)]
        self.assertLessEqual(len(flat(calls[:59])), 31000)
        self.assertEqual(told(begin(3), *calls[:59]), [[0]] + [[0, 512], [0, 0]] * 29 + [[0, 512]])

    def test_sixty_calls_of_every_kind(self):
        calls = list(EVERY_CALL) * 2 + list(EVERY_CALL)[:12]
        self.assertEqual(len(calls), 60)
        given = told(*calls)
        self.assertEqual(given, EVERY_ANSWER * 2 + EVERY_ANSWER[:12])

    def test_list_of_31000_numbers(self):
        text = "pairs 2\n" + "let a = c\n" + "do 0 a\n" * 2300
        text += "\n" * (16384 - len(text))
        other = "pairs 2\n" + "twist 0 1\n" * 300 + "do 0" + " l" * 212 + "\n"
        calls = flat([put("a", text), put("b", other), workby("b", 1)])
        room = (31000 - len(calls)) // 600
        calls += flat([work([64] * 595)] * room)
        calls += work([1] * (31000 - len(calls) - 4))
        self.assertEqual(len(calls), 31000)
        given = split(answers(calls))
        self.assertEqual(given[:3], [[-5, 1, 2302], [0], [0, 512]])
        self.assertEqual(given[3:-1], [[-1]] * room)
        self.assertEqual(given[-1], [-9])

    def test_list_of_31000_numbers_with_a_load_of_16384_bytes(self):
        good = saved(2, [0, 64] * 256, [("a", [64] * 512), ("b", [0, 64] * 200)])
        long = good + [0] * (16384 - len(good))
        calls = flat([load(good), load(long), check("a"), check("b"), coming("b"), save()])
        text = "pairs 2\n" + "repeat 1\nend\n" * ((31000 - len(calls) - 100) // 13)
        calls += put("d", text)
        calls += flat([undo(), redo()])
        calls += work([0] * (31000 - len(calls) - 4))
        self.assertEqual(len(calls), 31000)
        given = split(answers(calls))
        self.assertEqual(given, [
            [0], [-5, len(good)], [0, 0, 0, 512, 512], [0, 0, 400, 112, 0], [-6], [0] + good, [0], [0], [0], [-9],
        ])

    def test_list_of_31000_numbers_with_loads_of_full_pillows(self):
        acts = [k for k in range(32) for turn in range(16)]
        full = saved(32, acts, [(letter, acts) for letter in "abdefghi"])
        calls = flat([load(full)] * 6 + [save()])
        calls += flat([work([0] * 600)] * ((31000 - len(calls)) // 604))
        self.assertLessEqual(len(calls), 31000)
        given = split(answers(calls))
        self.assertEqual(given[:7], [[0]] * 6 + [[0] + full])
        self.assertEqual(given[7:], [[-1]] * (len(given) - 7))

    def test_loaded_list_is_not_changed(self):
        good = saved(3, [0, 2], [("a", [65])])
        calls = flat([load(good), work([64]), keep("b"), undo(), redo(), save(), load(good[:-1]), piece()])
        before = list(calls)
        first = answers(calls)
        self.assertEqual(calls, before)
        self.assertEqual(answers(calls), first)
        self.assertEqual(calls, before)
