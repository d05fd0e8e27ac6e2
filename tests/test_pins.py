"""pins: the faults of pins, and the lace that a pricking's full orders make."""

import itertools
import unittest

from helper import BIGGEST, begin, last, mend, pattern_is, pins, told, undo, work, workby


def chain(count, letters):
    """Pins below one another, each of the two ends of the one before."""
    rows = [[0, 1] + letters]
    for pin in range(1, count):
        rows.append([62 + 2 * pin, 63 + 2 * pin] + letters)
    return rows


class Meaning(unittest.TestCase):
    def means(self, pairs, pricked, acts):
        calls = [begin(pairs), pins("p", pricked)]
        self.assertEqual(told(*calls), [[0], [0]], pricked)
        self.assertTrue(pattern_is("p", acts, *calls), pricked)
        self.assertEqual(last(*calls, work(acts), mend("p")), [0, 0, 0], pricked)

    def test_no_pins(self):
        self.means(1, [], [])
        self.means(32, [], [])

    def test_one_pin(self):
        self.means(2, [[0, 1]], [])
        self.means(2, [[0, 1, 0]], [64])
        self.means(2, [[0, 1, 1]], [0])
        self.means(2, [[0, 1, 2]], [1])
        self.means(4, [[2, 3, 0, 1, 2, 0, 0, 1]], [66, 2, 3, 66, 66, 2])
        self.means(32, [[30, 31, 0, 2]], [94, 31])

    def test_eleven_letters(self):
        self.means(2, [[0, 1] + [0, 1] * 5 + [2]], [64, 0] * 5 + [1])

    def test_pins_take_the_ends_of_others(self):
        self.means(3, [[0, 1, 0], [65, 2, 0]], [64, 65])
        self.means(3, [[1, 2, 0], [0, 64, 0]], [65, 64])
        self.means(4, [[0, 1, 0], [2, 3, 0], [65, 66, 0, 1], [64, 68, 2], [69, 67, 2]], [64, 66, 65, 1, 1, 3])
        self.means(3, [[0, 1, 0], [65, 2, 1, 0], [64, 66, 0, 2], [69, 67, 1]], [64, 1, 65, 64, 1, 1])

    def test_pins_may_leave_ends_hanging(self):
        self.means(5, [[1, 2, 0], [3, 4, 0]], [65, 67])

    def test_order_of_working_is_not_the_order_of_numbers(self):
        self.means(3, [[67, 2, 0], [0, 1, 0]], [64, 65])
        self.means(2, [[66, 67, 2], [68, 69, 1], [0, 1, 0, 0]], [64, 64, 0, 1])
        self.means(3, [[69, 2, 0], [68, 64, 1], [0, 1, 2]], [1, 65, 0])

    def test_every_numbering_of_the_pins_makes_the_same_lace(self):
        rows = [[0, 1, 0, 1], [2, 3, 0, 2], [65, 66, 0, 1, 2], [64, 68, 1, 0], [69, 67, 0, 0]]
        acts = [64, 0, 66, 3, 65, 1, 2, 0, 64, 66, 66]
        for order in itertools.permutations(range(5)):
            renamed = {}
            for new, old in enumerate(order):
                renamed[64 + 2 * old] = 64 + 2 * new
                renamed[65 + 2 * old] = 65 + 2 * new
            pricked = [[renamed.get(end, end) for end in rows[old][:2]] + rows[old][2:] for old in order]
            self.means(4, pricked, acts)

    def test_64_pins(self):
        self.means(2, chain(64, [0, 1]), [64, 0] * 64)
        backwards = [[64 + 2 * (pin + 1), 65 + 2 * (pin + 1), 0, pin % 3] for pin in range(63)] + [[0, 1, 2]]
        self.means(2, backwards, [1] + [act for pin in range(62, -1, -1) for act in (64, (64, 0, 1)[pin % 3])])


class Refusals(unittest.TestCase):
    def given(self, pricked, pairs=3):
        return last(begin(pairs), pins("p", pricked))

    def test_65_pins(self):
        self.assertEqual(self.given(chain(64, [])), [0])
        self.assertEqual(self.given(chain(65, [])), [-1])
        self.assertEqual(self.given([[192, 192, 7]] * 70), [-1])
        self.assertEqual(self.given([[192, 192, 7]] * 64), [-5, 0, 1])
        self.assertEqual(self.given([[99, 98, 7]] * 64), [-5, 0, 2])

    def test_end_that_there_is_not(self):
        for end in list(range(3, 64)) + [64, 65, 68, 69, 70, 191, 192, 255, BIGGEST - 1, BIGGEST]:
            self.assertEqual(self.given([[end, 1], [0, 2]]), [-5, 0, 1], end)
            self.assertEqual(self.given([[1, end], [0, 2]]), [-5, 0, 1], end)
        for end in (66, 67):
            self.assertEqual(self.given([[end, 1], [0, 2]]), [-6], end)
            self.assertEqual(self.given([[1, 2], [0, end]]), [-5, 1, 1], end)

    def test_pairs_are_the_pillows(self):
        self.assertEqual(self.given([[0, 1]], 1), [-5, 0, 1])
        self.assertEqual(self.given([[30, 31]], 32), [0])
        self.assertEqual(self.given([[31, 32]], 32), [-5, 0, 1])
        self.assertEqual(self.given([[30, 31]], 31), [-5, 0, 1])

    def test_last_of_64_pins(self):
        rows = chain(64, [])
        self.assertEqual(self.given(rows[:63] + [[188, 190]]), [-5, 63, 1])
        self.assertEqual(self.given(rows[:63] + [[188, 191]]), [-5, 63, 1])
        self.assertEqual(self.given(rows[:63] + [[188, 192]]), [-5, 63, 1])
        self.assertEqual(self.given([[0, 1]] + [[190, 191]] + rows[2:]), [-6])

    def test_stitch(self):
        self.assertEqual(self.given([[0, 1] + [0] * 11]), [0])
        self.assertEqual(self.given([[0, 1] + [0] * 12]), [-5, 0, 2])
        self.assertEqual(self.given([[0, 1] + [0] * 38]), [-5, 0, 2])
        for letter in (3, 64, BIGGEST):
            self.assertEqual(self.given([[0, 1, letter]]), [-5, 0, 2])
            self.assertEqual(self.given([[0, 1] + [2] * 10 + [letter]]), [-5, 0, 2])

    def test_same_end_twice(self):
        self.assertEqual(self.given([[0, 0]]), [-5, 0, 3])
        self.assertEqual(self.given([[0, 1], [64, 64]]), [-5, 1, 3])

    def test_end_that_a_pin_before_has(self):
        self.assertEqual(self.given([[0, 1], [0, 2]]), [-5, 1, 3])
        self.assertEqual(self.given([[0, 1], [1, 2]]), [-5, 1, 3])
        self.assertEqual(self.given([[0, 1], [2, 0]]), [-5, 1, 3])
        self.assertEqual(self.given([[0, 1], [2, 1]]), [-5, 1, 3])
        self.assertEqual(self.given([[0, 1], [65, 2], [64, 65]]), [-5, 2, 3])
        self.assertEqual(self.given([[0, 1], [65, 2], [64, 66], [2, 68]]), [-5, 3, 3])

    def test_first_kind_of_a_pin(self):
        self.assertEqual(self.given([[9, 9, 3]]), [-5, 0, 1])
        self.assertEqual(self.given([[0, 9, 3]]), [-5, 0, 1])
        self.assertEqual(self.given([[0, 0, 3]]), [-5, 0, 2])
        self.assertEqual(self.given([[0, 1], [0, 1] + [0] * 12]), [-5, 1, 2])
        self.assertEqual(self.given([[0, 1], [0, 66]]), [-5, 1, 1])

    def test_first_pin_with_a_fault(self):
        self.assertEqual(self.given([[0, 0], [9, 9], [0, 1, 3]]), [-5, 0, 3])
        self.assertEqual(self.given([[0, 1], [64, 65, 3], [9, 9]]), [-5, 1, 2])
        self.assertEqual(self.given([[0, 1], [64, 65], [64, 65], [9, 9]]), [-5, 2, 3])

    def test_pin_that_cannot_be_worked(self):
        self.assertEqual(self.given([[1, 0]]), [-6])
        self.assertEqual(self.given([[0, 2]]), [-6])
        self.assertEqual(self.given([[66, 67], [64, 65]]), [-6])
        self.assertEqual(self.given([[0, 1], [65, 64]]), [-6])
        self.assertEqual(self.given([[0, 1], [64, 2]]), [-6])
        self.assertEqual(self.given([[0, 1, 0], [2, 65]]), [-6])
        self.assertEqual(self.given([[0, 1], [69, 2], [64, 66]]), [-6])

    def test_faults_before_pins_that_cannot_be_worked(self):
        self.assertEqual(self.given([[1, 0], [0, 2]]), [-5, 1, 3])
        self.assertEqual(self.given([[1, 0] + [0] * 12]), [-5, 0, 2])

    def test_512_and_513_acts(self):
        rows = chain(64, [0] * 8)
        self.assertEqual(told(begin(2), pins("p", rows), workby("p", 1)), [[0], [0], [0, 512]])
        rows[40] = rows[40] + [1]
        self.assertEqual(self.given(rows), [-9])
        self.assertEqual(self.given(chain(64, [0] * 11)), [-9])

    def test_pins_that_cannot_be_worked_before_many_acts(self):
        self.assertEqual(self.given(chain(63, [0] * 11) + [[189, 188]]), [-6])

    def test_refused_leaves_all_as_it_was(self):
        for pricked in (chain(65, []), [[0, 0]], [[1, 0]], chain(64, [0] * 11)):
            given = told(work([0]), pins("p", pricked), workby("p", 1), pins("p", [[0, 1, 0]]), undo(), undo(), undo())
            self.assertLess(given[1][0], 0)
            self.assertEqual(given[2:], [[-2], [0], [0], [0], [-2]])

    def test_pins_leave_the_piece(self):
        self.assertEqual(told(work([0]), pins("p", [[0, 1, 0, 0]]), work([])), [[0, 1], [0], [0, 1]])
