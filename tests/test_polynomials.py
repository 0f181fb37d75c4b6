"""The calls trace, polynomial, least, whole and alike: what they answer."""

import unittest

from helper import (
    alike, by, field, last, least, minus, norm, number, plus, polynomial, run, signs, times, told, trace, whole,
)

SQUARE_ROOT_OF_2 = field(-2, 0)
CUBE_ROOT_OF_2 = field(-2, 0, 0)
FOURTH_ROOT_OF_2 = field(-2, 0, 0, 0)
GENERAL_QUADRATIC = field(7, 3)
GENERAL_CUBIC = field(1, -3, 5)
GENERAL_QUARTIC = field(3, -1, 2, 5)
# A root of it is the sum of a square root of 2 and one of 3.
TWO_SQUARE_ROOTS = field(1, 0, -10, 0)
FIFTH_ROOT_OF_1 = field(1, 1, 1, 1)
EVERY_DEGREE = ((2, GENERAL_QUADRATIC), (3, GENERAL_CUBIC), (4, GENERAL_QUARTIC))


def fraction(degree, above, below=1):
    return number(above, below, *[0, 1] * (degree - 1))


def root(degree):
    return number(0, 1, 1, 1, *[0, 1] * (degree - 2))


def binomial(degree, a, b):
    """The coefficients, as fractions that are not told in lowest terms, of the power of x - a / b."""
    factors = {2: (1, 2, 1), 3: (1, 3, 3, 1), 4: (1, 4, 6, 4, 1)}[degree]
    return [(factor * (-a)**(degree - k), b**(degree - k)) for k, factor in enumerate(factors)]


def pairs(told_behind):
    return list(zip(told_behind[0::2], told_behind[1::2]))


class Traces(unittest.TestCase):
    def test_degree_2(self):
        self.assertEqual(last(number(3, 1, 4, 1), trace(0)), [0, 6, 1])
        self.assertEqual(last(SQUARE_ROOT_OF_2, number(1, 2, 1, 3), trace(0)), [0, 1, 1])
        self.assertEqual(last(field(-1, -1), number(1, 2, 1, 3), trace(0)), [0, 4, 3])
        self.assertEqual(last(GENERAL_QUADRATIC, root(2), trace(0)), [0, -3, 1])

    def test_degree_3(self):
        # The traces of t and t t are -5 and 31.
        self.assertEqual(last(GENERAL_CUBIC, number(1, 2, -3, 4, 5, 6), trace(0)), [0, 373, 12])
        self.assertEqual(last(GENERAL_CUBIC, root(3), trace(0)), [0, -5, 1])
        self.assertEqual(last(CUBE_ROOT_OF_2, number(1, 2, -3, 4, 5, 6), trace(0)), [0, 3, 2])

    def test_degree_4(self):
        # The traces of t, t t and t t t are -5, 21 and -92.
        self.assertEqual(last(GENERAL_QUARTIC, root(4), trace(0)), [0, -5, 1])
        self.assertEqual(last(GENERAL_QUARTIC, number(0, 1, 0, 1, 1, 1, 0, 1), trace(0)), [0, 21, 1])
        self.assertEqual(last(GENERAL_QUARTIC, number(0, 1, 0, 1, 0, 1, 3, 8), trace(0)), [0, -69, 2])

    def test_of_a_fraction(self):
        for degree, start in EVERY_DEGREE:
            self.assertEqual(pairs(last(start, fraction(degree, 5, 7), trace(0))[1:]), [(5 * degree, 7)])
        self.assertEqual(last(GENERAL_QUARTIC, fraction(4, 2, 6), trace(0)), [0, 4, 3])

    def test_of_0_and_1(self):
        for degree, start in EVERY_DEGREE:
            self.assertEqual(run(start, fraction(degree, 0), trace(0))[2], [0, 0, 1])
            self.assertEqual(run(start, fraction(degree, 1), trace(0))[2], [0, degree, 1])

    def test_nothing_is_kept(self):
        self.assertEqual(run(root(2), trace(0), told(0), told(1)), [[0], [0, 0, 1], [0, 0, 1, 1, 1], [-2]])


class Polynomials(unittest.TestCase):
    def test_of_the_root(self):
        self.assertEqual(last(root(2), polynomial(0)), [0, 1, 1, 0, 1, 1, 1])
        self.assertEqual(last(GENERAL_QUADRATIC, root(2), polynomial(0)), [0, 7, 1, 3, 1, 1, 1])
        self.assertEqual(last(GENERAL_CUBIC, root(3), polynomial(0)), [0, 1, 1, -3, 1, 5, 1, 1, 1])
        self.assertEqual(last(GENERAL_QUARTIC, root(4), polynomial(0)), [0, 3, 1, -1, 1, 2, 1, 5, 1, 1, 1])

    def test_degree_2(self):
        self.assertEqual(last(number(3, 1, 4, 1), polynomial(0)), [0, 25, 1, -6, 1, 1, 1])
        self.assertEqual(last(SQUARE_ROOT_OF_2, number(1, 2, 1, 3), polynomial(0)), [0, 1, 36, -1, 1, 1, 1])

    def test_degree_3(self):
        self.assertEqual(
            last(CUBE_ROOT_OF_2, number(1, 1, 1, 1, 0, 1), polynomial(0)), [0, -3, 1, 3, 1, -3, 1, 1, 1])
        self.assertEqual(
            last(CUBE_ROOT_OF_2, number(1, 2, 1, 2, 0, 1), polynomial(0)), [0, -3, 8, 3, 4, -3, 2, 1, 1])

    def test_degree_4(self):
        # (x - 1) to the 4 is 2; (x - 1/2) to the 4 is 2/81.
        self.assertEqual(
            last(FOURTH_ROOT_OF_2, number(1, 1, 1, 1, 0, 1, 0, 1), polynomial(0)),
            [0, -1, 1, -4, 1, 6, 1, -4, 1, 1, 1])
        self.assertEqual(
            last(FOURTH_ROOT_OF_2, number(1, 2, 1, 3, 0, 1, 0, 1), polynomial(0)),
            [0, 49, 1296, -1, 2, 3, 2, -2, 1, 1, 1])

    def test_of_a_lower_degree(self):
        # It has the field's degree: the polynomial of t t is the square of x x - 2.
        self.assertEqual(
            last(FOURTH_ROOT_OF_2, number(0, 1, 0, 1, 1, 1, 0, 1), polynomial(0)),
            [0, 4, 1, 0, 1, -4, 1, 0, 1, 1, 1])

    def test_of_a_fraction(self):
        for degree, start in EVERY_DEGREE:
            for above, below in ((0, 1), (1, 1), (-1, 1), (3, 4), (-7, 5)):
                found = last(start, fraction(degree, above, below), polynomial(0))
                self.assertEqual(found[0], 0)
                for (a, b), (c, d) in zip(pairs(found[1:]), binomial(degree, above, below), strict=True):
                    self.assertEqual(a * d, b * c)
        self.assertEqual(last(CUBE_ROOT_OF_2, fraction(3, 0), polynomial(0)), [0, 0, 1, 0, 1, 0, 1, 1, 1])
        self.assertEqual(last(CUBE_ROOT_OF_2, fraction(3, 9, 6), polynomial(0)), [0, -27, 8, 27, 4, -9, 2, 1, 1])

    def test_norm_and_trace_are_in_it(self):
        for degree, start in EVERY_DEGREE:
            calls = [start, number(*[2, 3, -1, 4, 5, 2, -7, 6][:2 * degree])]
            ahead, *told_behind = last(*calls, polynomial(0))
            (zero, a, b), (zero, c, d) = run(*calls, norm(0), trace(0))[2:]
            self.assertEqual(len(told_behind), 2 * degree + 2)
            self.assertEqual(told_behind[:2], [a if degree % 2 == 0 else -a, b])
            self.assertEqual(told_behind[-4:], [-c, d, 1, 1])


class LeastPolynomials(unittest.TestCase):
    def test_of_a_fraction(self):
        for degree, start in EVERY_DEGREE:
            self.assertEqual(last(start, fraction(degree, 0), least(0)), [1, 0, 1, 1, 1])
            self.assertEqual(last(start, fraction(degree, 1), least(0)), [1, -1, 1, 1, 1])
            self.assertEqual(last(start, fraction(degree, -6, 8), least(0)), [1, 3, 4, 1, 1])
            self.assertEqual(last(start, fraction(degree, 1000, 999), least(0)), [1, -1000, 999, 1, 1])

    def test_of_the_fields_degree(self):
        self.assertEqual(last(SQUARE_ROOT_OF_2, number(1, 2, 1, 3), least(0)), [2, 1, 36, -1, 1, 1, 1])
        self.assertEqual(
            last(CUBE_ROOT_OF_2, number(1, 2, 1, 2, 0, 1), least(0)), [3, -3, 8, 3, 4, -3, 2, 1, 1])
        self.assertEqual(
            last(FOURTH_ROOT_OF_2, number(1, 2, 1, 3, 0, 1, 0, 1), least(0)),
            [4, 49, 1296, -1, 2, 3, 2, -2, 1, 1, 1])
        self.assertEqual(last(GENERAL_QUARTIC, root(4), least(0)), [4, 3, 1, -1, 1, 2, 1, 5, 1, 1, 1])

    def test_with_0_in_all_places_but_one(self):
        self.assertEqual(last(number(0, 1, 1, 2), least(0)), [2, 1, 4, 0, 1, 1, 1])
        self.assertEqual(
            last(CUBE_ROOT_OF_2, number(0, 1, 0, 1, 1, 2), least(0)), [3, -1, 2, 0, 1, 0, 1, 1, 1])
        self.assertEqual(
            last(FOURTH_ROOT_OF_2, number(*[0, 1] * 3, 1, 2), least(0)), [4, -1, 2, 0, 1, 0, 1, 0, 1, 1, 1])

    def test_of_degree_2_in_a_field_of_degree_4(self):
        self.assertEqual(
            last(FOURTH_ROOT_OF_2, number(0, 1, 0, 1, 1, 1, 0, 1), least(0)), [2, -2, 1, 0, 1, 1, 1])
        self.assertEqual(
            last(FOURTH_ROOT_OF_2, number(1, 2, 0, 1, 1, 3, 0, 1), least(0)), [2, 1, 36, -1, 1, 1, 1])
        self.assertEqual(
            last(FIFTH_ROOT_OF_1, number(-1, 1, 0, 1, -1, 1, -1, 1), least(0)), [2, -1, 1, 1, 1, 1, 1])
        self.assertEqual(
            last(FIFTH_ROOT_OF_1, number(-1, 2, 0, 1, -1, 2, -1, 2), least(0)), [2, -1, 4, 1, 2, 1, 1])

    def test_three_fields_of_degree_2_in_one(self):
        # Square roots of 2, 3 and 6.
        for places, square in (
            ((0, 1, -9, 2, 0, 1, 1, 2), 2), ((0, 1, 11, 2, 0, 1, -1, 2), 3), ((-5, 2, 0, 1, 1, 2, 0, 1), 6),
        ):
            found = run(TWO_SQUARE_ROOTS, number(*places), least(0), polynomial(0), times(0, 0), told(1), least(1))
            self.assertEqual(found[2], [2, -square, 1, 0, 1, 1, 1])
            self.assertEqual(found[3], [0, square * square, 1, 0, 1, -2 * square, 1, 0, 1, 1, 1])
            self.assertEqual(found[5:], [[0, square, 1, 0, 1, 0, 1, 0, 1], [1, -square, 1, 1, 1]])

    def test_of_sums_of_numbers_of_degree_2(self):
        calls = [TWO_SQUARE_ROOTS, number(0, 1, -9, 2, 0, 1, 1, 2), number(0, 1, 11, 2, 0, 1, -1, 2)]
        self.assertEqual(last(*calls, plus(0, 1), told(2)), [0, 0, 1, 1, 1, 0, 1, 0, 1])
        self.assertEqual(last(*calls, plus(0, 1), least(2)), [4, 1, 1, 0, 1, -10, 1, 0, 1, 1, 1])
        self.assertEqual(last(*calls, times(0, 1), least(2)), [2, -6, 1, 0, 1, 1, 1])
        self.assertEqual(last(*calls, by(0, 1), least(2)), [2, -2, 3, 0, 1, 1, 1])
        self.assertEqual(last(*calls, minus(0, 0), least(2)), [1, 0, 1, 1, 1])

    def test_almost_a_square(self):
        # Each differs in one coefficient from the square of a polynomial of degree 2.
        for coefficients in (
            (2, 0, 2, 0), (-1, -4, 6, -4), (1, 1, 2, 0), (1, 0, 3, 0), (1, 0, 2, 1), (1, -2, 3, -1),
        ):
            expected = [part for one in coefficients for part in (one, 1)] + [1, 1]
            found = run(field(*coefficients), root(4), polynomial(0), least(0))
            self.assertEqual(found[2:], [[0] + expected, [4] + expected], coefficients)


class Whole(unittest.TestCase):
    def check(self, expected, *calls):
        self.assertEqual(last(*calls, whole(0)), [expected], calls)

    def test_whole_places(self):
        self.check(1, number(3, 1, 4, 1))
        self.check(1, SQUARE_ROOT_OF_2, number(-1000, 1, 999, 1))
        self.check(1, GENERAL_CUBIC, number(5, 1, -7, 1, 2, 1))
        self.check(1, GENERAL_QUARTIC, number(5, 1, -7, 1, 2, 1, 1000, 1))
        self.check(1, GENERAL_QUARTIC, number(10, 2, -7, 1, 6, 3, 1000, 1000))

    def test_whole_though_the_places_are_not(self):
        self.check(1, field(-5, 0), number(1, 2, 1, 2))
        self.check(1, field(3, 0), number(-1, 2, 1, 2))
        self.check(1, field(-8, -2, -1), number(0, 1, 1, 2, 1, 2))
        self.check(1, field(-18, 0, 0), number(0, 1, 0, 1, 1, 3))
        self.check(1, TWO_SQUARE_ROOTS, number(0, 1, -9, 2, 0, 1, 1, 2))
        self.check(1, field(16, 8, 4, 2), number(0, 1, 1, 2, 0, 1, 0, 1))

    def test_not_whole_though_trace_or_norm_is(self):
        for calls, expected in (
            ([SQUARE_ROOT_OF_2, number(1, 2, 1, 2)], [[0, 1, 1], [0, -1, 4]]),
            ([number(1, 2, 1, 2)], [[0, 1, 1], [0, 1, 2]]),
            ([number(3, 5, 4, 5)], [[0, 6, 5], [0, 1, 1]]),
            ([field(8, 2, 0), number(0, 1, 1, 2, 0, 1)], [[0, 0, 1], [0, -1, 1]]),
        ):
            self.assertEqual(run(*calls, trace(0), norm(0))[-2:], expected)
            self.check(0, *calls)

    def test_each_coefficient_counts(self):
        # Of t / 2, one coefficient alone is not whole.
        half = number(0, 1, 1, 2, 0, 1, 0, 1)
        for coefficients, place in (
            ((8, 8, 4, 2), 0), ((16, 4, 4, 2), 1), ((16, 8, 2, 2), 2), ((16, 8, 4, 1), 3),
        ):
            found = last(field(*coefficients), half, polynomial(0))[1:]
            self.assertEqual([one == 1 for one in found[1::2]], [k != place for k in range(5)])
            self.check(0, field(*coefficients), half)

    def test_of_a_fraction(self):
        for degree, start in EVERY_DEGREE:
            for above, below, expected in (
                (0, 1, 1), (1, 1, 1), (-3, 1, 1), (6, 3, 1), (1, 2, 0), (3, 4, 0), (999, 1000, 0),
            ):
                self.check(expected, start, fraction(degree, above, below))

    def test_of_a_lower_degree(self):
        self.check(1, FIFTH_ROOT_OF_1, number(-1, 1, 0, 1, -1, 1, -1, 1))
        self.check(0, FIFTH_ROOT_OF_1, number(-1, 2, 0, 1, -1, 2, -1, 2))
        self.check(0, FOURTH_ROOT_OF_2, number(1, 2, 0, 1, 1, 2, 0, 1))


class Alike(unittest.TestCase):
    def check(self, expected, start, *two):
        self.assertEqual(last(start, *two, alike(0, 1)), [expected])
        self.assertEqual(last(start, *two, alike(1, 0)), [expected])

    def test_a_number_and_itself(self):
        for degree, start in EVERY_DEGREE:
            one = number(*[2, 3, -1, 4, 5, 2, -7, 6][:2 * degree])
            self.assertEqual(last(start, one, alike(0, 0)), [1])
            self.check(1, start, one, one)

    def test_two_roots_of_one_polynomial(self):
        self.check(1, field(1, 0), number(1, 2, 1, 3), number(1, 2, -1, 3))
        self.check(1, SQUARE_ROOT_OF_2, root(2), number(0, 1, -1, 1))
        self.check(1, field(-1, -1), root(2), number(1, 1, -1, 1))
        self.check(1, field(1, -3, 0), root(3), number(-2, 1, 0, 1, 1, 1))
        self.check(1, field(1, -3, 0), root(3), number(2, 1, -1, 1, -1, 1))
        self.check(1, FOURTH_ROOT_OF_2, root(4), number(0, 1, -1, 1, 0, 1, 0, 1))
        self.check(1, FIFTH_ROOT_OF_1, root(4), number(*[0, 1] * 3, 1, 1))
        self.check(1, FIFTH_ROOT_OF_1, root(4), number(*[-1, 1] * 4))

    def test_two_roots_of_one_of_a_lower_degree(self):
        self.check(
            1, FOURTH_ROOT_OF_2, number(1, 1, 0, 1, 2, 3, 0, 1), number(1, 1, 0, 1, -2, 3, 0, 1))
        self.check(
            1, FIFTH_ROOT_OF_1, number(-1, 1, 0, 1, -1, 1, -1, 1), number(0, 1, 0, 1, 1, 1, 1, 1))

    def test_roots_of_different_ones(self):
        self.check(0, SQUARE_ROOT_OF_2, root(2), number(0, 1, 2, 1))
        self.check(0, SQUARE_ROOT_OF_2, number(1, 1, 1, 1), number(1, 1, 2, 1))
        self.check(0, SQUARE_ROOT_OF_2, number(1, 1, 1, 1), number(-1, 1, 1, 1))
        self.check(0, CUBE_ROOT_OF_2, root(3), number(0, 1, -1, 1, 0, 1))
        self.check(0, FOURTH_ROOT_OF_2, root(4), number(*[0, 1] * 3, 1, 1))

    def test_trace_and_norm_are_not_enough(self):
        # x x x - 2 and x x x + 6 x - 2.
        other = number(0, 1, -1, 1, 1, 1)
        self.assertEqual(run(CUBE_ROOT_OF_2, other, trace(0), norm(0))[2:], [[0, 0, 1], [0, 2, 1]])
        self.check(0, CUBE_ROOT_OF_2, root(3), other)

    def test_of_degrees_that_differ(self):
        square = number(0, 1, 0, 1, 1, 1, 0, 1)
        for one, other in (
            (root(4), square), (root(4), fraction(4, 0)), (square, fraction(4, 0)), (square, fraction(4, 2)),
        ):
            self.check(0, FOURTH_ROOT_OF_2, one, other)
        self.check(0, SQUARE_ROOT_OF_2, root(2), fraction(2, 0))

    def test_fractions(self):
        for degree, start in EVERY_DEGREE:
            self.check(1, start, fraction(degree, 2, 4), fraction(degree, 3, 6))
            self.check(0, start, fraction(degree, 1, 2), fraction(degree, -1, 2))
            self.check(0, start, fraction(degree, 1), fraction(degree, 0))
            self.check(1, start, fraction(degree, 0), fraction(degree, 0, 5))


class Tells(unittest.TestCase):
    def test_all_is_as_it_was(self):
        asked = [trace(0), polynomial(0), least(0), whole(0), signs(0), alike(0, 1)]
        start = [GENERAL_QUARTIC, number(2, 3, -1, 4, 5, 2, -7, 6), root(4)]
        found = run(*start, *asked, told(0), told(1), told(2))
        self.assertEqual(found[-3:], [[0, 2, 3, -1, 4, 5, 2, -7, 6], [0, 0, 1, 1, 1, 0, 1, 0, 1], [-2]])
        self.assertEqual(run(*start, *asked, *asked)[9:], found[3:9])

    def test_of_any_size(self):
        # 10 to the 18 is kept; its polynomial has 10 to the 72.
        powers = [fraction(4, 1000), times(0, 0), times(1, 0), times(2, 2)]
        self.assertEqual(last(FOURTH_ROOT_OF_2, *powers, trace(3)), [0, 4 * 10**18, 1])
        self.assertEqual(
            last(FOURTH_ROOT_OF_2, *powers, polynomial(3)),
            [0, 10**72, 1, -4 * 10**54, 1, 6 * 10**36, 1, -4 * 10**18, 1, 1, 1])
        self.assertEqual(
            last(FOURTH_ROOT_OF_2, *powers, root(4), times(3, 4), least(5)),
            [4, -2 * 10**72, 1, 0, 1, 0, 1, 0, 1, 1, 1])
        self.assertEqual(
            last(FOURTH_ROOT_OF_2, *powers, root(4), by(4, 3), polynomial(5)),
            [0, -1, 5 * 10**71, 0, 1, 0, 1, 0, 1, 1, 1])


if __name__ == "__main__":
    unittest.main()
