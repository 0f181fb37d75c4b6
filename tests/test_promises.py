"""What holds of all numbers: the laws of sums and products, norms, least polynomials and whole numbers."""

import itertools
import random
import unittest
from fractions import Fraction

from helper import (
    by, field, has_parts, last, least, minus, multiplied, norm, number, plus, polynomial, run, signs, solved, times,
    told, trace, whole,
)

# Fields with real roots and without, those of degree 4 with fields of degree 2 in them and without.
FIELDS = (
    field(1, 0), field(-2, 0), field(-5, 0), field(3, 0), field(7, 3), field(-2, 0, 0), field(1, -3, 5),
    field(1, -3, 0), field(-8, -2, -1), field(-2, 0, 0, 0), field(1, 0, -10, 0), field(1, 1, 1, 1), field(3, -1, 2, 5),
)
FRACTIONS = ((0, 1), (1, 1), (-1, 1), (2, 1), (1, 2), (-3, 2), (2, 3), (-1, 3))
# Numbers that are whole though their places aren't, some of them with 1 and t.
WHOLE = (
    (field(-5, 0), ((1, 2, 1, 2), (1, 2, -1, 2), (0, 1, 1, 1), (-3, 2, 5, 2))),
    (field(3, 0), ((-1, 2, 1, 2), (1, 2, 1, 2), (2, 1, 1, 1))),
    (field(-8, -2, -1), ((0, 1, 1, 2, 1, 2), (0, 1, 1, 1, 0, 1), (3, 1, -1, 2, 3, 2))),
    (field(-18, 0, 0), ((0, 1, 0, 1, 1, 3), (0, 1, 1, 1, 0, 1), (1, 1, 1, 1, 2, 3))),
    (field(1, 0, -10, 0), ((0, 1, -9, 2, 0, 1, 1, 2), (0, 1, 11, 2, 0, 1, -1, 2), (-5, 2, 0, 1, 1, 2, 0, 1))),
    (field(16, 8, 4, 2), ((0, 1, 1, 2, 0, 1, 0, 1), (0, 1, 0, 1, 1, 4, 0, 1), (1, 1, 1, 2, 1, 4, 1, 8))),
    (field(1, 1, 1, 1), ((0, 1, 1, 1, 0, 1, 0, 1), (-1, 1, 0, 1, -1, 1, -1, 1), (1, 1, 2, 1, 3, 1, 4, 1))),
)


def some_numbers(chance, start, many):
    """Places of numbers, of some of which none but the first place or the even ones differ from 0."""
    found = []
    for one in range(many):
        step = chance.choice((1, 1, 1, 2, 4))
        places = [chance.choice(FRACTIONS) if k % step == 0 else (0, 1) for k in range(len(start) - 2)]
        found.append([part for place in places for part in place])
    return found


def some_lines(seed, many):
    """A field and some numbers of it, again and again."""
    chance = random.Random(seed)
    for turn in range(6):
        for start in FIELDS:
            yield start, [number(*one) for one in some_numbers(chance, start, many)]


def fractions(answer):
    """What is told behind the first number of an answer."""
    return [Fraction(above, below) for above, below in zip(answer[1::2], answer[2::2], strict=True)]


def reckoned(start, *calls):
    """The places of the last number of a line."""
    return fractions(last(start, *calls, told(len(calls) - 1)))


def as_number(places):
    return number(*[part for one in places for part in one.as_integer_ratio()])


def value_by_calls(start, coefficients, a):
    """What comes of a polynomial with the number a for x, reckoned by the calls times and plus."""
    places = [Fraction(0) for one in start[2:]]
    for one in reversed(coefficients):
        constant = as_number([one] + [Fraction(0) for other in start[3:]])
        places = reckoned(start, a, as_number(places), constant, times(0, 1), plus(3, 2))
    return places


class PutTogether(unittest.TestCase):
    def test_sums(self):
        for start, three in some_lines(1, 3):
            found = run(start, *three, plus(0, 1), plus(3, 2), plus(1, 2), plus(0, 5), told(4), told(6))
            self.assertEqual(found[-1], found[-2], (start, three))
            self.assertEqual(reckoned(start, *three, plus(1, 0)), reckoned(start, *three, plus(0, 1)))

    def test_products(self):
        for start, three in some_lines(2, 3):
            found = run(start, *three, times(0, 1), times(3, 2), times(1, 2), times(0, 5), told(4), told(6))
            self.assertEqual(found[-1], found[-2], (start, three))
            self.assertEqual(reckoned(start, *three, times(1, 0)), reckoned(start, *three, times(0, 1)))

    def test_product_with_a_sum(self):
        for start, three in some_lines(3, 3):
            of_the_sum = reckoned(start, *three, plus(1, 2), times(0, 3))
            self.assertEqual(reckoned(start, *three, times(0, 1), times(0, 2), plus(3, 4)), of_the_sum)
            self.assertEqual(reckoned(start, *three, minus(1, 2), times(0, 3), times(0, 2), plus(4, 5)),
                             reckoned(start, *three, times(0, 1)))

    def test_differences_and_quotients_undo(self):
        for start, (one, other) in some_lines(4, 2):
            places = [Fraction(a, b) for a, b in zip(one[2::2], one[3::2])]
            self.assertEqual(reckoned(start, one, other, plus(0, 1), minus(2, 1)), places)
            if any(other[2::2]):
                self.assertEqual(reckoned(start, one, other, times(0, 1), by(2, 1)), places)
                self.assertEqual(reckoned(start, one, other, by(0, 1), times(2, 1)), places)


class NormsTracesSigns(unittest.TestCase):
    def told_of(self, call, start, *calls):
        return fractions(last(start, *calls, call(len(calls) - 1)))[0]

    def test_the_norm_of_a_product(self):
        for start, (one, other) in some_lines(5, 2):
            one_norm, other_norm = self.told_of(norm, start, one), self.told_of(norm, start, other)
            self.assertEqual(self.told_of(norm, start, one, other, times(0, 1)), one_norm * other_norm)
            if other_norm:
                self.assertEqual(self.told_of(norm, start, one, other, by(0, 1)), one_norm / other_norm)

    def test_the_trace_of_a_sum(self):
        for start, (one, other) in some_lines(6, 2):
            one_trace, other_trace = self.told_of(trace, start, one), self.told_of(trace, start, other)
            self.assertEqual(self.told_of(trace, start, one, other, plus(0, 1)), one_trace + other_trace)
            self.assertEqual(self.told_of(trace, start, one, other, minus(0, 1)), one_trace - other_trace)

    def test_the_signs_of_a_product(self):
        for start, two in some_lines(7, 2):
            one, other, both = run(start, *two, times(0, 1), signs(0), signs(1), signs(2))[-3:]
            self.assertEqual(both[1:], [a * b for a, b in zip(one[1:], other[1:])])


class LeastPolynomials(unittest.TestCase):
    def test_the_number_is_a_root(self):
        for start, (one, ) in some_lines(8, 1):
            for call in (least, polynomial):
                coefficients = fractions(last(start, one, call(0)))
                self.assertFalse(any(value_by_calls(start, coefficients, one)), (start, one))

    def test_of_none_lower(self):
        # The powers below the degree aren't made up of lower ones, by which it would be a root of a lower one.
        for start, (one, ) in some_lines(9, 1):
            unit = [1, 1] + [0, 1] * (len(start) - 3)
            powers = [fractions(last(start, number(*unit), told(0)))]
            for power in range(1, last(start, one, least(0))[0]):
                powers.append(reckoned(start, one, as_number(powers[-1]), times(0, 1)))
                self.assertIsNone(solved(powers[:-1], powers[-1])[0], (start, one))

    def test_the_polynomial_is_a_power_of_it(self):
        degrees = set()
        for start, (one, ) in some_lines(10, 1):
            first, second = run(start, one, least(0), polynomial(0))[-2:]
            power = [Fraction(1)]
            while len(power) < len(start) - 1:
                power = multiplied(power, fractions(first))
            self.assertEqual(power, fractions(second))
            self.assertEqual(len(fractions(first)) - 1, first[0])
            degrees.add((len(start) - 2, first[0]))
        self.assertEqual(degrees, {(2, 1), (2, 2), (3, 1), (3, 3), (4, 1), (4, 2), (4, 4)})

    def test_it_can_not_be_parted(self):
        tried = {}
        for start in FIELDS:
            for few in itertools.product((-1, 0, 1), repeat=min(3, len(start) - 2)):
                places = list(few) + [0] * (len(start) - 2 - len(few))
                degree, *found = last(start, as_number(places), least(0))
                self.assertEqual(found[1::2], [1] * (degree + 1))
                if degree > 1 and max(map(abs, found)) <= 20:
                    tried[len(start) - 2, degree] = True
                    self.assertFalse(has_parts(found[0::2]), (start, places))
        self.assertEqual(sorted(tried), [(2, 2), (3, 3), (4, 2), (4, 4)])


class WholeNumbers(unittest.TestCase):
    def test_sums_and_products_of_whole_numbers(self):
        for start, ones in WHOLE:
            for one, other in itertools.product(ones, repeat=2):
                found = run(start, number(*one), number(*other), plus(0, 1), minus(0, 1), times(0, 1),
                            *[whole(k) for k in range(5)])
                self.assertEqual(found[-5:], [[1]] * 5, (start, one, other))

    def test_of_whole_numbers_among_any(self):
        chance = random.Random(12)
        found = 0
        for start, ones in WHOLE:
            numbers = [number(*one) for one in some_numbers(chance, start, 40)]
            kept = [one for one in numbers if last(start, one, whole(0)) == [1]]
            for one, other in zip(kept, kept[1:]):
                found += 1
                self.assertEqual(last(start, one, other, plus(0, 1), whole(2)), [1])
                self.assertEqual(last(start, one, other, times(0, 1), whole(2)), [1])
        self.assertGreater(found, 20)

    def test_a_sum_with_one_that_is_not_whole(self):
        for start, ones in WHOLE:
            for one in ones:
                half = number(1, 2, *[0, 1] * (len(start) - 3))
                self.assertEqual(last(start, number(*one), half, plus(0, 1), whole(2)), [0])


if __name__ == "__main__":
    unittest.main()
