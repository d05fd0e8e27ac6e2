"""The interface: how calls are told and answered, and that nothing is changed or kept."""

import unittest

from helper import back, begin, call, drop, flat, keep, mend, pins, put, split, told, undo, work, workby
from lacepillow.pillow import answers

EVERY_CALL = (
    begin(3), put("a", "pairs 3\ndo 0 c t\n"), pins("b", [[0, 1, 0], [65, 2, 1]]), work([0, 64, 1]), keep("d"),
    workby("a", 2), back([0]), mend("b"), drop("a"), undo(), undo(), mend("a"),
)


class Interface(unittest.TestCase):
    def test_numbers_as_they_stand(self):
        self.assertEqual(answers([0, 1, 3, 0]), [1, 0])
        self.assertEqual(answers([0, 1, 33, 0]), [1, -1])
        self.assertEqual(answers([9, 0, 0]), [1, -2])
        self.assertEqual(answers([5, 0, 1, 2, 0, 64]), [2, 0, 2])
        self.assertEqual(answers([5, 0, 1, 1, 9]), [1, -5])
        self.assertEqual(answers([1, 0, 2, 1, 97, 0]), [3, -5, 1, 0])
        self.assertEqual(answers([2, 0, 1, 1, 97]), [1, 0])
        self.assertEqual(answers([2, 0, 2, 1, 97, 2, 0, 0]), [3, -5, 0, 3])
        self.assertEqual(answers([3, 0, 1, 1, 97, 4, 0, 1, 1, 97, 4, 0, 1, 1, 97]), [1, 0, 1, 0, 1, -2])
        self.assertEqual(answers([3, 0, 1, 1, 97, 6, 1, 7, 1, 1, 97]), [1, 0, 2, 0, 0])
        self.assertEqual(answers([7, 0, 1, 0, 7, 0, 1, 1, 0]), [2, 0, 0, 1, -6])
        self.assertEqual(answers([5, 0, 1, 1, 0, 3, 0, 1, 1, 97, 8, 0, 1, 1, 97]), [2, 0, 1, 1, 0, 3, 0, 0, 0])

    def test_every_call_answers(self):
        self.assertEqual(told(*EVERY_CALL), [
            [0], [0], [0], [0, 3], [0], [0, 9], [0, 8], [0, 8, 2], [0], [0], [0], [0, 8, 3],
        ])

    def test_new_pillow_has_two_pairs_and_nothing_else(self):
        self.assertEqual(told(work([0, 1, 64])), [[0, 3]])
        self.assertEqual(told(work([2])), [[-5]])
        self.assertEqual(told(work([65])), [[-5]])
        self.assertEqual(told(back([])), [[0, 0]])
        self.assertEqual(told(drop("a"), undo()), [[-2], [-2]])

    def test_list_is_not_changed(self):
        calls = flat(EVERY_CALL)
        before = list(calls)
        answers(calls)
        self.assertEqual(calls, before)

    def test_nothing_is_kept_to_the_next_time(self):
        calls = flat(EVERY_CALL)
        first = answers(calls)
        self.assertEqual(answers(calls), first)
        self.assertEqual(told(work([]), mend("a"), undo(), undo()), [[0, 0], [-2], [0], [-2]])

    def test_answer_is_a_new_list_of_whole_numbers(self):
        calls = flat(EVERY_CALL)
        first = answers(calls)
        self.assertIs(type(first), list)
        self.assertEqual({type(number) for number in first}, {int})
        first.append(7)
        self.assertNotEqual(answers(calls), first)

    def test_every_call_of_the_list_is_read(self):
        """What isn't written yet is read over: the calls behind it are made all the same."""
        others = [call(10, [], []), call(11, [], []), call(12, [], []), call(13, [], [])]
        others += [call(14, [], [[97]]), call(15, [], [[97, 98]]), call(16, [], [[]])]
        others += [call(17, [], []), call(18, [], [[76, 67, 80, 49, 5, 0, 1]])]
        for other in others:
            given = told(work([0]), other, work([64]), undo())
            self.assertEqual(len(given), 4)
            self.assertEqual(given[0], [0, 1])

    def test_sixty_calls_of_a_long_list(self):
        calls = []
        for turn in range(30):
            calls += [work([0, 65] * 256), back([65, 0] * 256)]
        self.assertLessEqual(len(flat(calls[:59])), 31000)
        self.assertEqual(told(begin(3), *calls[:59]), [[0]] + [[0, 512], [0, 0]] * 29 + [[0, 512]])

    def test_list_of_31000_numbers(self):
        text = "pairs 2\n" + "let a = c\n" + "do 0 a\n" * 2300
        text += "\n" * (16384 - len(text))
        other = "pairs 2\n" + "twist 0 1\n" * 300 + "do 0" + " l" * 212 + "\n"
        calls = flat([put("a", text), put("b", other), workby("b", 1)])
        room = (31000 - len(calls)) // 600
        calls += flat([work([64] * 595)] * room)
        calls += work([1] * (31000 - len(calls) - 4))
        self.assertEqual(len(calls), 31000)
        given = split(answers(calls))
        self.assertEqual(given[:3], [[-5, 1, 2302], [0], [0, 512]])
        self.assertEqual(given[3:-1], [[-1]] * room)
        self.assertEqual(given[-1], [-9])
