"""The calls number, plus, minus, times, by, told and norm: what they answer."""

import unittest

from helper import by, field, last, minus, norm, number, plus, run, times, told

SQUARE_ROOT_OF_2 = field(-2, 0)
CUBE_ROOT_OF_2 = field(-2, 0, 0)
GENERAL_CUBIC = field(1, -3, 5)
GENERAL_QUARTIC = field(3, -1, 2, 5)


class Number(unittest.TestCase):
    def test_answers_how_many_there_were(self):
        self.assertEqual(run(*[number(k, 1, 1, 1) for k in range(8)]), [[k] for k in range(8)])

    def test_told_as_handed_in(self):
        self.assertEqual(last(number(1, 2, -3, 5), told(0)), [0, 1, 2, -3, 5])
        self.assertEqual(last(CUBE_ROOT_OF_2, number(1, 2, -3, 5, 7, 1), told(0)), [0, 1, 2, -3, 5, 7, 1])
        self.assertEqual(
            last(GENERAL_QUARTIC, number(1, 2, -3, 5, 7, 1, 8, 9), told(0)), [0, 1, 2, -3, 5, 7, 1, 8, 9])

    def test_lowest_terms(self):
        self.assertEqual(last(number(6, 4, -10, 15), told(0)), [0, 3, 2, -2, 3])
        self.assertEqual(last(number(1000, 1000, -1000, 500), told(0)), [0, 1, 1, -2, 1])

    def test_0_above(self):
        self.assertEqual(last(number(0, 7, 0, 1000), told(0)), [0, 0, 1, 0, 1])

    def test_limits(self):
        self.assertEqual(last(number(1000, 1, -1000, 999), told(0)), [0, 1000, 1, -1000, 999])
        self.assertEqual(last(number(1, 1000, -1, 1000), told(0)), [0, 1, 1000, -1, 1000])


class SumsAndDifferences(unittest.TestCase):
    def test_sum(self):
        self.assertEqual(last(number(1, 2, 1, 3), number(1, 3, 1, 6), plus(0, 1), told(2)), [0, 5, 6, 1, 2])

    def test_difference(self):
        two = [number(1, 2, 1, 3), number(1, 3, 1, 6)]
        self.assertEqual(last(*two, minus(0, 1), told(2)), [0, 1, 6, 1, 6])
        self.assertEqual(last(*two, minus(1, 0), told(2)), [0, -1, 6, -1, 6])

    def test_with_itself(self):
        one = number(3, 4, -5, 6)
        self.assertEqual(last(one, plus(0, 0), told(1)), [0, 3, 2, -5, 3])
        self.assertEqual(last(one, minus(0, 0), told(1)), [0, 0, 1, 0, 1])

    def test_degree_4(self):
        two = [GENERAL_QUARTIC, number(1, 1, 1, 2, 1, 3, 1, 4), number(1, 1, 1, 2, 2, 3, -3, 4)]
        self.assertEqual(last(*two, plus(0, 1), told(2)), [0, 2, 1, 1, 1, 1, 1, -1, 2])
        self.assertEqual(last(*two, minus(0, 1), told(2)), [0, 0, 1, 0, 1, -1, 3, 1, 1])


class Products(unittest.TestCase):
    def test_degree_2(self):
        self.assertEqual(
            last(SQUARE_ROOT_OF_2, number(1, 2, 1, 3), number(3, 1, -1, 2), times(0, 1), told(2)),
            [0, 7, 6, 3, 4])

    def test_the_power_of_the_root(self):
        # t t t = 2; t t t = -1 + 3 t - 5 t t; t t t t = -3 + t - 2 t t - 5 t t t.
        root = number(0, 1, 1, 1, 0, 1)
        self.assertEqual(last(CUBE_ROOT_OF_2, root, times(0, 0), times(1, 0), told(2)), [0, 2, 1, 0, 1, 0, 1])
        self.assertEqual(last(GENERAL_CUBIC, root, times(0, 0), times(1, 0), told(2)), [0, -1, 1, 3, 1, -5, 1])
        root = number(0, 1, 1, 1, 0, 1, 0, 1)
        self.assertEqual(
            last(GENERAL_QUARTIC, root, times(0, 0), times(1, 1), told(2)), [0, -3, 1, 1, 1, -2, 1, -5, 1])

    def test_by_0_and_1(self):
        three = [number(5, 7, -2, 3), number(0, 1, 0, 1), number(1, 1, 0, 1)]
        self.assertEqual(last(*three, times(0, 1), told(3)), [0, 0, 1, 0, 1])
        self.assertEqual(last(*three, times(0, 2), told(3)), [0, 5, 7, -2, 3])


class Quotients(unittest.TestCase):
    def test_degree_2(self):
        two = [number(1, 1, 0, 1), number(1, 1, 1, 1)]
        self.assertEqual(last(*two, by(0, 1), told(2)), [0, 1, 2, -1, 2])
        self.assertEqual(last(*two, by(1, 0), told(2)), [0, 1, 1, 1, 1])
        two = [SQUARE_ROOT_OF_2, number(1, 2, 1, 3), number(3, 1, -1, 2)]
        self.assertEqual(last(*two, by(0, 1), told(2)), [0, 11, 51, 5, 34])

    def test_degree_3(self):
        # 1 / (1 + t) = (1 - t + t t) / 3 where t t t = 2.
        two = [CUBE_ROOT_OF_2, number(1, 1, 0, 1, 0, 1), number(1, 1, 1, 1, 0, 1)]
        self.assertEqual(last(*two, by(0, 1), told(2)), [0, 1, 3, -1, 3, 1, 3])

    def test_degree_4(self):
        # 1 / t = - (c1 + c2 t + c3 t t + t t t) / c0.
        two = [GENERAL_QUARTIC, number(1, 1, 0, 1, 0, 1, 0, 1), number(0, 1, 1, 1, 0, 1, 0, 1)]
        self.assertEqual(last(*two, by(0, 1), told(2)), [0, 1, 3, -2, 3, -5, 3, -1, 3])

    def test_by_itself(self):
        for start in (SQUARE_ROOT_OF_2, field(1, 1)):
            self.assertEqual(last(start, number(-3, 4, 5, 6), by(0, 0), told(1)), [0, 1, 1, 0, 1])

    def test_0_by_another(self):
        self.assertEqual(last(number(0, 1, 0, 1), number(-3, 4, 5, 6), by(0, 1), told(2)), [0, 0, 1, 0, 1])

    def test_by_a_number_with_0_first(self):
        self.assertEqual(last(number(1, 1, 0, 1), number(0, 1, 1, 2), by(0, 1), told(2)), [0, 0, 1, -2, 1])

    def test_undoes_times(self):
        found = last(
            GENERAL_CUBIC, number(1, 2, -3, 4, 5, 6), number(-7, 3, 0, 1, 2, 9),
            times(0, 1), by(2, 1), told(3))
        self.assertEqual(found, [0, 1, 2, -3, 4, 5, 6])


class Norms(unittest.TestCase):
    def test_degree_2(self):
        self.assertEqual(last(number(3, 1, 4, 1), norm(0)), [0, 25, 1])
        self.assertEqual(last(SQUARE_ROOT_OF_2, number(1, 2, 1, 3), norm(0)), [0, 1, 36])
        self.assertEqual(last(SQUARE_ROOT_OF_2, number(0, 1, 1, 1), norm(0)), [0, -2, 1])

    def test_degree_3(self):
        # Of a + b t + c t t where t t t = 2: a a a + 2 b b b + 4 c c c - 6 a b c.
        self.assertEqual(last(CUBE_ROOT_OF_2, number(1, 1, 1, 1, 0, 1), norm(0)), [0, 3, 1])
        self.assertEqual(last(CUBE_ROOT_OF_2, number(2, 1, -1, 1, 3, 2), norm(0)), [0, 75, 2])

    def test_of_the_root(self):
        # It is c0 where the degree is even, and - c0 where it is odd.
        self.assertEqual(last(field(7, 3), number(0, 1, 1, 1), norm(0)), [0, 7, 1])
        self.assertEqual(last(GENERAL_CUBIC, number(0, 1, 1, 1, 0, 1), norm(0)), [0, -1, 1])
        self.assertEqual(last(GENERAL_QUARTIC, number(0, 1, 1, 1, 0, 1, 0, 1), norm(0)), [0, 3, 1])

    def test_of_a_fraction(self):
        self.assertEqual(last(number(2, 3, 0, 1), norm(0)), [0, 4, 9])
        self.assertEqual(last(CUBE_ROOT_OF_2, number(-2, 3, 0, 1, 0, 1), norm(0)), [0, -8, 27])
        self.assertEqual(last(GENERAL_QUARTIC, number(-2, 3, 0, 1, 0, 1, 0, 1), norm(0)), [0, 16, 81])

    def test_of_0(self):
        self.assertEqual(last(number(0, 1, 0, 1), norm(0)), [0, 0, 1])

    def test_above_10_to_the_18(self):
        powers = [number(1000, 1, 0, 1), times(0, 0), times(1, 1), times(2, 1)]
        self.assertEqual(last(*powers, norm(3)), [0, 10**36, 1])

    def test_of_a_product(self):
        two = [GENERAL_CUBIC, number(1, 2, -3, 4, 5, 6), number(-7, 3, 0, 1, 2, 9), times(0, 1)]
        (zero, a, b), (zero, c, d), (zero, e, f) = run(*two, norm(0), norm(1), norm(2))[-3:]
        self.assertEqual(a * c * f, b * d * e)


if __name__ == "__main__":
    unittest.main()
