"""The call signs: the sign of a number at each real root, the least root first."""

import random
import unittest

from helper import Model, by, field, last, minus, number, plus, run, signs, times, told

SQUARE_ROOT_OF_2 = field(-2, 0)
CUBE_ROOT_OF_2 = field(-2, 0, 0)
# The real roots are about -1.879, 0.347 and 1.532.
THREE_ROOTS = field(1, -3, 0)
# About -3.146, -0.318, 0.318 and 3.146.
FOUR_ROOTS = field(1, 0, -10, 0)
# About -0.724 and 1.221.
TWO_OF_FOUR = field(-1, -1, 0, 0)
# About 1.308, 1.643 and 6.049.
CLOSE_CUBIC = field(-13, 20, -9)
# About -0.812, 2.323, 2.575 and 3.913.
CLOSE_QUARTIC = field(-19, -3, 18, -8)


class Signs(unittest.TestCase):
    def check(self, start, places, *expected):
        self.assertEqual(last(*start, number(*places), signs(0)), [len(expected), *expected], (start, places))

    def test_no_real_roots(self):
        self.check([], (3, 1, 4, 1))
        self.check([], (0, 1, 0, 1))
        self.check([field(1, 1)], (-3, 7, 1, 2))
        self.check([field(1, 0, 0, 0)], (1, 1, 2, 1, -3, 1, 4, 5))
        self.check([field(20, 0, 0, 0)], (-1, 1, 0, 1, 0, 1, 0, 1))

    def test_two_of_degree_2(self):
        self.check([SQUARE_ROOT_OF_2], (0, 1, 1, 1), -1, 1)
        self.check([SQUARE_ROOT_OF_2], (0, 1, -1, 1), 1, -1)
        self.check([SQUARE_ROOT_OF_2], (1, 2, 1, 3), 1, 1)
        self.check([SQUARE_ROOT_OF_2], (1, 3, 1, 2), -1, 1)
        self.check([SQUARE_ROOT_OF_2], (-1, 2, 1, 3), -1, -1)
        # The roots are about -0.618 and 1.618, then about -2.618 and -0.382.
        self.check([field(-1, -1)], (1, 2, 1, 1), -1, 1)
        self.check([field(-1, -1)], (2, 3, 1, 1), 1, 1)
        self.check([field(1, 3)], (1, 1, 1, 1), -1, 1)
        self.check([field(1, 3)], (3, 1, 1, 1), 1, 1)
        self.check([field(1, 3)], (0, 1, 1, 1), -1, -1)

    def test_one_of_degree_3(self):
        self.check([CUBE_ROOT_OF_2], (0, 1, 1, 1, 0, 1), 1)
        self.check([CUBE_ROOT_OF_2], (0, 1, -1, 1, 0, 1), -1)
        self.check([CUBE_ROOT_OF_2], (-5, 4, 1, 1, 0, 1), 1)
        self.check([CUBE_ROOT_OF_2], (-63, 50, 1, 1, 0, 1), -1)
        self.check([field(2, 0, 0)], (0, 1, 1, 1, 0, 1), -1)
        self.check([field(2, 0, 0)], (0, 1, 0, 1, 1, 1), 1)

    def test_three_of_degree_3(self):
        self.check([THREE_ROOTS], (0, 1, 1, 1, 0, 1), -1, 1, 1)
        self.check([THREE_ROOTS], (-1, 1, 1, 1, 0, 1), -1, -1, 1)
        self.check([THREE_ROOTS], (1, 1, -1, 1, 0, 1), 1, 1, -1)
        self.check([THREE_ROOTS], (2, 1, 1, 1, 0, 1), 1, 1, 1)
        self.check([THREE_ROOTS], (-1, 1, 0, 1, 1, 1), 1, -1, 1)
        self.check([THREE_ROOTS], (-3, 1, 0, 1, 1, 1), 1, -1, -1)

    def test_two_of_degree_4(self):
        self.check([TWO_OF_FOUR], (0, 1, 1, 1, 0, 1, 0, 1), -1, 1)
        self.check([TWO_OF_FOUR], (1, 1, 1, 1, 0, 1, 0, 1), 1, 1)
        self.check([TWO_OF_FOUR], (-1, 1, 0, 1, 1, 1, 0, 1), -1, 1)
        self.check([TWO_OF_FOUR], (1, 2, 0, 1, 0, 1, 1, 1), 1, 1)
        self.check([TWO_OF_FOUR], (1, 3, 0, 1, 0, 1, 1, 1), -1, 1)
        self.check([TWO_OF_FOUR], (-2, 1, 0, 1, 0, 1, 1, 1), -1, -1)

    def test_four_of_degree_4(self):
        self.check([FOUR_ROOTS], (0, 1, 1, 1, 0, 1, 0, 1), -1, -1, 1, 1)
        self.check([FOUR_ROOTS], (1, 1, 1, 1, 0, 1, 0, 1), -1, 1, 1, 1)
        self.check([FOUR_ROOTS], (-1, 1, 1, 1, 0, 1, 0, 1), -1, -1, -1, 1)
        self.check([FOUR_ROOTS], (-1, 1, 0, 1, 1, 1, 0, 1), 1, -1, -1, 1)
        # The square roots of 2, 3 and 6 that are in it.
        self.check([FOUR_ROOTS], (0, 1, -9, 2, 0, 1, 1, 2), -1, 1, -1, 1)
        self.check([FOUR_ROOTS], (0, 1, 11, 2, 0, 1, -1, 2), -1, -1, 1, 1)
        self.check([FOUR_ROOTS], (-5, 2, 0, 1, 1, 2, 0, 1), 1, -1, -1, 1)

    def test_0(self):
        self.check([SQUARE_ROOT_OF_2], [0, 1] * 2, 0, 0)
        self.check([CUBE_ROOT_OF_2], [0, 7] * 3, 0)
        self.check([THREE_ROOTS], [0, 1] * 3, 0, 0, 0)
        self.check([TWO_OF_FOUR], [0, 1] * 4, 0, 0)
        self.check([FOUR_ROOTS], [0, 1] * 4, 0, 0, 0, 0)

    def test_a_0_that_came_of_a_difference(self):
        self.assertEqual(last(SQUARE_ROOT_OF_2, number(3, 4, 5, 6), minus(0, 0), signs(1)), [2, 0, 0])

    def test_fractions(self):
        for start, degree, roots in (
            (SQUARE_ROOT_OF_2, 2, 2), (CUBE_ROOT_OF_2, 3, 1), (THREE_ROOTS, 3, 3), (FOUR_ROOTS, 4, 4),
        ):
            for above, below, sign in ((1, 1, 1), (-1, 1, -1), (1, 1000, 1), (-1, 1000, -1), (-7, 3, -1)):
                self.check([start], [above, below] + [0, 1] * (degree - 1), *[sign] * roots)

    def test_roots_close_together(self):
        self.check([CLOSE_CUBIC], (-3, 2, 1, 1, 0, 1), -1, 1, 1)
        self.check([CLOSE_CUBIC], (-2, 1, 1, 1, 0, 1), -1, -1, 1)
        self.check([CLOSE_CUBIC], (-1, 1, 1, 1, 0, 1), 1, 1, 1)
        self.check([CLOSE_QUARTIC], (-5, 2, 1, 1, 0, 1, 0, 1), -1, -1, 1, 1)
        self.check([CLOSE_QUARTIC], (-3, 1, 1, 1, 0, 1, 0, 1), -1, -1, -1, 1)
        self.check([CLOSE_QUARTIC], (2, 1, -1, 1, 0, 1, 0, 1), 1, -1, -1, -1)
        # t t - 5 t + 6 is below 0 from 2 to 3 alone.
        self.check([CLOSE_QUARTIC], (6, 1, -5, 1, 1, 1, 0, 1), 1, -1, -1, 1)

    def test_roots_that_are_large(self):
        # The root with the largest size is about -20.954, 20.954, -20.911 and 20.913.
        self.check([field(-20, 20)], (20, 1, 1, 1), -1, 1)
        self.check([field(-20, 20)], (21, 1, 1, 1), 1, 1)
        self.check([field(-20, -20)], (-20, 1, 1, 1), -1, 1)
        self.check([field(-20, -20)], (-21, 1, 1, 1), -1, -1)
        self.check([field(-20, -20, 20)], (21, 1, 1, 1, 0, 1), 1, 1, 1)
        self.check([field(-20, -20, 20)], (20, 1, 1, 1, 0, 1), -1, 1, 1)
        self.check([field(19, -20, -20)], (-20, 1, 1, 1, 0, 1), -1, -1, 1)


class NearZero(unittest.TestCase):
    def test_fractions_near_a_root(self):
        # 577/408 is above the square root of 2 by 2 of 10 to the 6, 239/169 and 985/697 below it.
        for above, below, sign in ((577, 408, 1), (239, 169, -1), (99, 70, 1), (41, 29, -1), (985, 697, -1)):
            calls = [SQUARE_ROOT_OF_2, number(above, below, -1, 1), number(above, below, 1, 1)]
            self.assertEqual(run(*calls, signs(0), signs(1))[3:], [[2, 1, sign], [2, sign, 1]])
        for above, below, sign in ((635, 504, -1), (349, 277, 1), (286, 227, -1)):
            self.assertEqual(
                last(CUBE_ROOT_OF_2, number(above, below, -1, 1, 0, 1), signs(0)), [1, sign])

    def test_powers_of_a_number_below_1(self):
        # 1 - t is about -0.414 and 2.414: its 41st power has 16 digits in its places.
        calls = [SQUARE_ROOT_OF_2, number(1, 1, -1, 1)] + [times(k, k) for k in range(5)]
        calls += [times(5, 3), times(6, 0)]
        found = run(*calls, signs(6), signs(7), told(7))
        self.assertEqual(found[-3:-1], [[2, 1, 1], [2, 1, -1]])
        (zero, a, one, b, another) = found[-1]
        self.assertEqual(a * a - 2 * b * b, -1)
        self.assertGreater(a, 10**15)

    def test_products_of_powers(self):
        # 1 - t is about -0.26 where t t t is 2: below 0 are its odd powers alone.
        calls = [CUBE_ROOT_OF_2, number(1, 1, -1, 1, 0, 1)] + [times(k, k) for k in range(5)]
        for i in range(6):
            for j in range(5):
                odd = (i == 0) != (j == 0)
                self.assertEqual(last(*calls, times(i, j), signs(6)), [1, -1 if odd else 1])

    def test_small_at_one_root_and_large_at_another(self):
        # t to the 16 is about 24,000 at the first root and 0.00000004 at the second one.
        calls = [THREE_ROOTS, number(0, 1, 1, 1, 0, 1), times(0, 0), times(1, 1), times(2, 2), times(3, 3)]
        calls += [times(4, 0), minus(5, 4), minus(4, 5)]
        found = run(*calls, *[signs(k) for k in range(4, 8)])
        self.assertEqual(found[-4:], [[3, 1, 1, 1], [3, -1, 1, 1], [3, -1, -1, 1], [3, 1, 1, -1]])


class LargePlaces(unittest.TestCase):
    def test_above(self):
        large = [SQUARE_ROOT_OF_2, number(1000, 1, 0, 1), times(0, 0), times(1, 0), times(2, 2)]
        self.assertEqual(last(*large, number(0, 1, 1, 1), plus(3, 4), signs(5)), [2, 1, 1])
        self.assertEqual(last(*large, number(0, 1, 1, 1), times(3, 4), signs(5)), [2, -1, 1])
        self.assertEqual(
            last(*large, number(0, 1, 1, 1), times(2, 4), minus(3, 5), signs(6)), [2, 1, 1])

    def test_below(self):
        small = [SQUARE_ROOT_OF_2, number(1, 1000, 0, 1), times(0, 0), times(1, 0), times(2, 2)]
        self.assertEqual(last(*small, signs(3)), [2, 1, 1])
        self.assertEqual(last(*small, number(0, 1, 1, 1), minus(3, 4), signs(5)), [2, 1, -1])
        self.assertEqual(last(*small, number(0, 1, 1, 1), times(3, 4), signs(5)), [2, -1, 1])

    def test_after_quotients(self):
        calls = [CLOSE_QUARTIC, number(17, 3, 1, 7, -2, 5, 1, 1), number(-5, 2, 1, 1, 0, 1, 0, 1)]
        first, second, third = run(*calls, by(0, 1), signs(0), signs(1), signs(2))[-3:]
        self.assertEqual(third, [4] + [a * b for a, b in zip(first[1:], second[1:])])

    def test_against_another_way(self):
        chance = random.Random(12)
        sizes = []
        for start in (SQUARE_ROOT_OF_2, CUBE_ROOT_OF_2, THREE_ROOTS, FOUR_ROOTS, TWO_OF_FOUR, CLOSE_QUARTIC):
            for turn in range(12):
                places = [[chance.randint(-1000, 1000), chance.choice((1, 3, 8))] for one in start[2:]]
                calls = [start, number(*sum(places, [])), number(*[1, 2] * len(start[2:]))]
                for one in range(5):
                    calls += [[chance.choice((2, 3, 4, 4, 5)), chance.randint(0, one + 1), chance.randint(0, 1)]]
                calls += [signs(k) for k in range(7)] + [told(k) for k in range(7)]
                model = Model()
                self.assertEqual(run(*calls), [model.answer(call) for call in calls], calls)
                for one in sum(model.numbers, []):
                    sizes += [abs(one.numerator), one.denominator]
        self.assertGreater(max(sizes), 10**16)


if __name__ == "__main__":
    unittest.main()
