"""What the calls refuse, in which order, and that all is then as it was."""

import unittest

from helper import (
    HUGE, alike, by, drop, field, last, least, minus, norm, number, plus, polynomial, run, signs, times, told, trace,
    whole,
)

FULL = [number(k + 1, 1, 0, 1) for k in range(8)]
PAIR_CALLS = (plus, minus, times, by, alike)
KEEPING_CALLS = (plus, minus, times, by)
CALLS_OF_ONE = (told, norm, trace, polynomial, least, whole, signs)
# 10 to the 6, 10 to the 9, 10 to the 18 are the numbers 1, 2 and 3; 4 is 1.
LARGE = [number(1000, 1, 0, 1), times(0, 0), times(1, 0), times(2, 2), number(1, 1, 0, 1)]


class NoneSuch(unittest.TestCase):
    def test_without_numbers(self):
        for call in PAIR_CALLS:
            self.assertEqual(run(call(0, 0)), [[-2]])
        for call in CALLS_OF_ONE:
            self.assertEqual(run(call(0), field(-2, 0, 0), call(0)), [[-2], [1], [-2]])

    def test_the_first_that_is_not_there(self):
        one = number(1, 1, 1, 1)
        for call in PAIR_CALLS:
            for names in ((0, 1), (1, 0), (1, 1), (0, HUGE), (HUGE, 0), (HUGE, HUGE)):
                self.assertEqual(run(one, call(*names), told(0)), [[0], [-2], [0, 1, 1, 1, 1]])
        for call in CALLS_OF_ONE:
            for name in (1, 8, HUGE):
                self.assertEqual(run(one, call(name), told(0)), [[0], [-2], [0, 1, 1, 1, 1]])

    def test_ahead_of_the_others(self):
        zero = number(0, 1, 0, 1)
        self.assertEqual(last(zero, by(1, 0)), [-2])
        self.assertEqual(last(zero, by(HUGE, 0)), [-2])
        for call in PAIR_CALLS:
            self.assertEqual(last(*FULL, call(0, 8)), [-2])
            self.assertEqual(last(*FULL, call(8, 0)), [-2])
        self.assertEqual(last(*FULL[:7], zero, by(8, 7)), [-2])

    def test_the_last_that_is_there(self):
        self.assertEqual(last(*FULL, told(7)), [0, 8, 1, 0, 1])
        self.assertEqual(last(*FULL, norm(7)), [0, 64, 1])
        self.assertEqual(last(*FULL, trace(7)), [0, 16, 1])
        self.assertEqual(last(*FULL, polynomial(7)), [0, 64, 1, -16, 1, 1, 1])
        self.assertEqual(last(*FULL, least(7)), [1, -8, 1, 1, 1])
        self.assertEqual(last(*FULL, whole(7)), [1])
        self.assertEqual(last(*FULL, signs(7)), [0])
        self.assertEqual(run(*FULL, alike(7, 7), alike(0, 7), alike(7, 0))[8:], [[1], [0], [0]])
        self.assertEqual(last(*FULL[:7], plus(6, 0)), [7])

    def test_as_it_was(self):
        asked = [call(2) for call in CALLS_OF_ONE] + [call(2, 0) for call in PAIR_CALLS]
        start = [field(-2, 0, 0), number(1, 2, -3, 4, 5, 6), number(7, 8, 9, 10, -11, 12)]
        found = run(*start, *asked, told(0), told(1), times(0, 1))
        self.assertEqual(found[3:15], [[-2]] * 12)
        self.assertEqual(found[15:], [[0, 1, 2, -3, 4, 5, 6], [0, 7, 8, 9, 10, -11, 12], [2]])


class ByZero(unittest.TestCase):
    def test_by_0(self):
        two = [number(0, 1, 0, 1), number(1, 2, 1, 3)]
        self.assertEqual(run(*two, by(1, 0), by(0, 0), told(1), told(2))[2:], [[-3], [-3], [0, 1, 2, 1, 3], [-2]])

    def test_by_a_0_that_came_of_a_difference(self):
        self.assertEqual(last(number(1, 2, 1, 3), minus(0, 0), by(0, 1)), [-3])

    def test_ahead_of_full(self):
        self.assertEqual(last(*FULL[:7], number(0, 1, 0, 1), by(0, 7)), [-3])
        self.assertEqual(last(*FULL, by(0, 7)), [-5])

    def test_degrees_3_and_4(self):
        self.assertEqual(last(field(-2, 0, 0), number(0, 1, 0, 1, 0, 1), by(0, 0)), [-3])
        self.assertEqual(last(field(-2, 0, 0, 0), number(*[0, 1] * 4), by(0, 0)), [-3])
        self.assertEqual(last(field(-2, 0, 0, 0), number(*[0, 1] * 3, 1, 1), by(0, 0)), [1])


class Full(unittest.TestCase):
    def test_the_eighth_and_the_ninth(self):
        self.assertEqual(run(*FULL, number(9, 1, 9, 1))[7:], [[7], [-5]])
        for call in KEEPING_CALLS:
            self.assertEqual(run(*FULL[:7], call(0, 1), call(0, 1))[7:], [[7], [-5]])

    def test_as_it_was(self):
        ninth = [number(9, 1, 9, 1), plus(0, 1), minus(0, 1), times(0, 1), by(0, 1)]
        ones = [told(k) for k in range(9)]
        self.assertEqual(
            run(*FULL, *ninth, *ones)[8:], [[-5]] * 5 + [[0, k + 1, 1, 0, 1] for k in range(8)] + [[-2]])

    def test_ahead_of_too_large(self):
        full = LARGE + FULL[:3]
        for call in (plus(3, 4), times(3, 0)):
            self.assertEqual(last(*full[:7], call), [-8])
            self.assertEqual(last(*full, call), [-5])


class TooLarge(unittest.TestCase):
    def test_10_to_the_18_above(self):
        self.assertEqual(run(*LARGE, told(3))[3:], [[3], [4], [0, 10**18, 1, 0, 1]])
        self.assertEqual(run(*LARGE, plus(3, 4), told(5))[5:], [[-8], [-2]])
        self.assertEqual(run(*LARGE, minus(3, 4), told(5))[5:], [[5], [0, 10**18 - 1, 1, 0, 1]])
        self.assertEqual(last(*LARGE, times(3, 0)), [-8])

    def test_10_to_the_18_above_and_below_0(self):
        negative = LARGE + [minus(4, 4), minus(5, 3)]
        self.assertEqual(run(*negative, told(6))[6:], [[6], [0, -10**18, 1, 0, 1]])
        self.assertEqual(run(*negative, minus(6, 4), told(7))[7:], [[-8], [-2]])
        self.assertEqual(last(*negative, plus(6, 4), told(7)), [0, 1 - 10**18, 1, 0, 1])

    def test_10_to_the_18_below(self):
        small = LARGE + [by(4, 3)]
        self.assertEqual(last(*small, told(5)), [0, 1, 10**18, 0, 1])
        self.assertEqual(run(*small, by(5, 0), told(6))[6:], [[-8], [-2]])
        # 1 / (10 to the 18 + 1) has 1 above.
        self.assertEqual(last(*small[:4], number(1, 1000, 0, 1), number(1, 1, 0, 1), plus(4, 5), by(5, 3)), [7])
        self.assertEqual(last(*small, number(1, 2, 0, 1), times(5, 6)), [-8])

    def test_in_the_last_place(self):
        root = field(-2, 0, 0, 0)
        large = [root, number(*[0, 1] * 3, 1000, 1), number(1000, 1, *[0, 1] * 3)]
        large += [times(0, 1), times(2, 1), times(3, 1), times(4, 1)]
        self.assertEqual(last(*large, times(5, 0)), [-8])
        self.assertEqual(last(*large, told(5)), [0] + [0, 1] * 3 + [10**15, 1])
        self.assertEqual(run(*large, times(5, 1), plus(6, 0))[7:], [[6], [-8]])

    def test_in_lowest_terms(self):
        # 10 to the 18 by 10 to the 18 is 1, though it is large on the way.
        self.assertEqual(last(*LARGE, by(3, 3), told(5)), [0, 1, 1, 0, 1])
        self.assertEqual(last(*LARGE, by(3, 2), told(5)), [0, 10**9, 1, 0, 1])

    def test_as_it_was(self):
        ones = [told(k) for k in range(6)]
        before = run(*LARGE, *ones)[5:]
        self.assertEqual(run(*LARGE, times(3, 3), by(2, 2), *ones[:5])[7:], before[:5])
        self.assertEqual(run(*LARGE, times(3, 3), by(2, 2))[5:], [[-8], [5]])


class NothingToDrop(unittest.TestCase):
    def test_without_numbers(self):
        self.assertEqual(run(drop(), drop()), [[-4], [-4]])
        self.assertEqual(run(field(-2, 0, 0), drop()), [[1], [-4]])

    def test_after_a_new_field(self):
        self.assertEqual(run(*FULL, field(3, 0), drop())[8:], [[0], [-4]])

    def test_after_the_last_one(self):
        self.assertEqual(run(FULL[0], drop(), drop(), drop()), [[0], [0], [-4], [-4]])

    def test_as_it_was(self):
        found = run(field(-2, 0), drop(), number(0, 1, 1, 1), times(0, 0), told(1), signs(0))
        self.assertEqual(found, [[2], [-4], [0], [1], [0, 2, 1, 0, 1], [2, -1, 1]])


class WrongNumbers(unittest.TestCase):
    def check(self, start, *places):
        found = run(*start, number(*places), told(0))
        self.assertEqual(found[-2:], [[-1], [-2]], places)

    def test_how_many(self):
        for degree, start in ((2, []), (3, [field(-2, 0, 0)]), (4, [field(-2, 0, 0, 0)])):
            for length in range(11):
                if length != 2 * degree:
                    self.check(start, *[1] * length)

    def test_above(self):
        for outside in (1001, -1001, HUGE, -HUGE):
            self.check([], outside, 1, 1, 1)
            self.check([], 1, 1, outside, 1)
            self.check([field(-2, 0, 0, 0)], 1, 1, 1, 1, 1, 1, outside, 1)
            self.check([], outside, 1000, 1, 1)

    def test_below(self):
        for outside in (0, -1, -1000, 1001, HUGE, -HUGE):
            self.check([], 1, outside, 1, 1)
            self.check([], 1, 1, 1, outside)
            self.check([], 0, outside, 1, 1)
            self.check([field(-2, 0, 0, 0)], 1, 1, 1, 1, 1, 1, 1, outside)

    def test_above_and_below_are_not_mixed_up(self):
        self.check([], 1, 1, 1, 0)
        self.assertEqual(run(number(0, 1, -1, 1)), [[0]])

    def test_ahead_of_full(self):
        for wrong in ((), (1, 1), (1001, 1, 1, 1), (1, 0, 1, 1), (1, 1001, 1, 1)):
            self.assertEqual(last(*FULL, number(*wrong)), [-1])

    def test_as_it_was(self):
        found = run(number(1, 2, 3, 4), number(1, 0, 1, 1), number(), number(5, 6, 7, 8), told(0), told(1), told(2))
        self.assertEqual(found, [[0], [-1], [-1], [1], [0, 1, 2, 3, 4], [0, 5, 6, 7, 8], [-2]])


if __name__ == "__main__":
    unittest.main()
