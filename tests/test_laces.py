"""Workings, forms, what's left and common beginnings, against what the words say taken at its word."""

import itertools
import unittest

from helper import back, begin, first_working, keep, last, mend, places, same_laces, told, work
from lacepillow.laces import common_beginning, form, is_act, taken_back, touch, worked_behind


def workings(acts, longest):
    return [one for size in range(longest + 1) for one in itertools.product(acts, repeat=size)]


SMALL = {2: workings((0, 1, 64), 4), 3: workings((0, 1, 2, 64, 65), 3)}
MIXED = ((0, 64, 1, 0, 65, 2), (2, 1, 0, 65, 64), (65, 0, 65, 0, 1), (64, 2, 64, 2), (2, 64, 2, 64, 1), (1, 0, 1, 2, 0))


class Laces(unittest.TestCase):
    def test_acts(self):
        for pairs in (1, 2, 31, 32):
            acts = [act for act in range(256) if is_act(act, pairs)]
            self.assertEqual(acts, list(range(pairs)) + list(range(64, 64 + pairs - 1)))
            for act in range(256):
                self.assertEqual(last(begin(pairs), work([act])), [0, 1] if act in acts else [-5])

    def test_touching(self):
        acts = list(range(32)) + list(range(64, 95))
        for one in acts:
            for other in acts:
                self.assertEqual(touch(one, other), bool(places(one) & places(other)))

    def test_form_is_the_first_of_the_same(self):
        for acts in SMALL[2] + SMALL[3] + list(MIXED):
            self.assertEqual(form(acts), list(min(same_laces(acts))))
            self.assertEqual(first_working(acts), form(acts))

    def test_working_behind(self):
        for acts in MIXED:
            for cut in range(len(acts) + 1):
                self.assertEqual(worked_behind(form(acts[:cut]), acts[cut:]), form(acts))

    def test_common_beginning(self):
        for group in (SMALL[2], SMALL[3][:60], list(MIXED)):
            beginnings = {}
            for acts in group:
                same = same_laces(acts)
                beginnings[acts] = {one[:k] for one in same for k in range(len(one) + 1)}
            for one, other in itertools.product(group, group):
                longest = max(len(acts) for acts in beginnings[one] & beginnings[other])
                common = tuple(common_beginning(form(one), form(other)))
                self.assertEqual(len(common), longest)
                self.assertIn(common, beginnings[one] & beginnings[other])

    def test_taking_back(self):
        for group in (SMALL[2], list(MIXED)):
            for acts in group:
                ends = {}
                for one in same_laces(acts):
                    for k in range(len(one) + 1):
                        ends[one[k:]] = one[:k]
                for tail in SMALL[2][:60] + [acts]:
                    left = taken_back(form(acts), list(tail))
                    self.assertEqual(left, form(ends[tail]) if tail in ends else None)

    def test_mend_tells_the_common_beginning(self):
        for one, other in itertools.product(SMALL[3][::5], SMALL[3][::7]):
            common = len(common_beginning(form(one), form(other)))
            given = told(begin(3), work(other), keep("p"), back(other), work(one), mend("p"), back(other))
            self.assertEqual(given[-2], [0, len(one) - common, len(other) - common])
            self.assertEqual(given[-1], [0, 0])
