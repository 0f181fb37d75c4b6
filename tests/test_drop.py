"""The call drop: what it answers, and what is there after it."""

import unittest

from helper import HUGE, by, drop, field, last, norm, number, plus, run, signs, times, told

FULL = [number(k + 1, 1, 0, 1) for k in range(8)]


class Drop(unittest.TestCase):
    def test_answers_how_many_are_left(self):
        self.assertEqual(run(*FULL, *[drop()] * 9)[8:], [[7], [6], [5], [4], [3], [2], [1], [0], [-4]])

    def test_it_is_the_last_one(self):
        found = run(*FULL[:3], drop(), told(0), told(1), told(2), norm(2), plus(0, 2), times(2, 0))
        self.assertEqual(found[3:], [[2], [0, 1, 1, 0, 1], [0, 2, 1, 0, 1], [-2], [-2], [-2], [-2]])

    def test_the_numbering_after_it(self):
        found = run(*FULL[:3], drop(), number(9, 1, 8, 1), told(2), drop(), plus(0, 1), told(2), told(1))
        self.assertEqual(
            found[3:], [[2], [2], [0, 9, 1, 8, 1], [2], [2], [0, 3, 1, 0, 1], [0, 2, 1, 0, 1]])

    def test_room_after_the_last_of_8(self):
        found = run(*FULL, times(0, 1), drop(), times(0, 1), told(7), times(0, 1))
        self.assertEqual(found[8:], [[-5], [7], [7], [0, 2, 1, 0, 1], [-5]])
        found = run(*FULL, number(9, 1, 9, 1), drop(), drop(), number(9, 1, 9, 1), by(0, 6), drop())
        self.assertEqual(found[8:], [[-5], [7], [6], [6], [7], [7]])

    def test_after_one_was_refused(self):
        found = run(FULL[0], FULL[1], number(1, 0, 1, 1), told(HUGE), field(1, 2), drop(), told(0), told(1))
        self.assertEqual(found[2:], [[-1], [-2], [-3], [1], [0, 1, 1, 0, 1], [-2]])

    def test_the_field_stays(self):
        found = run(field(-2, 0, 0), number(0, 1, 1, 1, 0, 1), number(1, 1, 1, 1, 1, 1), drop(), signs(0), times(0, 0))
        self.assertEqual(found[3:], [[1], [1, 1], [1]])
        self.assertEqual(run(field(-2, 0), FULL[0], drop(), number(0, 1, 1, 1), signs(0))[2:], [[0], [0], [2, -1, 1]])

    def test_a_sum_that_the_dropped_one_was_part_of(self):
        found = run(FULL[0], plus(0, 0), plus(1, 1), drop(), plus(1, 0), told(2), drop(), drop(), told(0))
        self.assertEqual(found[3:], [[2], [2], [0, 3, 1, 0, 1], [2], [1], [0, 1, 1, 0, 1]])

    def test_each_time_anew(self):
        self.assertEqual(run(FULL[0], FULL[1], drop()), [[0], [1], [1]])
        self.assertEqual(run(FULL[0], drop()), [[0], [0]])
        self.assertEqual(last(drop()), [-4])


if __name__ == "__main__":
    unittest.main()
