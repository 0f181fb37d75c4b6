"""The call field: what it answers, what it refuses, what it leaves."""

import itertools
import random
import unittest

from helper import HUGE, Model, field, last, norm, number, run, times, told

KEPT_AS_IT_WAS = [[3], [0], [-1], [0, 1, 1, 2, 1, 3, 1]]


def refused_then_told(*coefficients):
    """A field of degree 3 with a number, then what is refused, then the number told."""
    return run(field(1, -3, 0), number(1, 1, 2, 1, 3, 1), field(*coefficients), told(0))


class RealRoots(unittest.TestCase):
    def check(self, roots, *coefficients):
        self.assertEqual(run(field(*coefficients)), [[roots]], coefficients)

    def test_degree_2(self):
        self.check(0, 1, 0)
        self.check(0, 1, 1)
        self.check(0, 20, 8)
        self.check(2, -2, 0)
        self.check(2, -1, -1)
        self.check(2, 1, 3)

    def test_degree_3(self):
        self.check(1, -2, 0, 0)
        self.check(1, 2, 0, 0)
        self.check(1, -1, -1, 0)
        self.check(3, 1, -3, 0)
        self.check(3, -1, -3, 0)
        self.check(3, -1, -2, 1)

    def test_degree_4(self):
        self.check(0, 1, 0, 0, 0)
        self.check(0, 1, 1, 1, 1)
        self.check(2, -2, 0, 0, 0)
        self.check(2, -1, -1, 0, 0)
        self.check(4, 1, 0, -10, 0)
        self.check(4, 2, 0, -4, 0)
        self.check(4, 1, -4, -4, 1)

    def test_roots_close_together(self):
        self.check(1, -17, 20, -8)
        self.check(1, 7, 20, 15)
        self.check(3, -13, 20, -9)
        self.check(0, 9, -20, 18, -7)
        self.check(0, 11, 17, 12, 5)
        self.check(2, 5, 14, 16, 7)
        self.check(4, -19, -3, 18, -8)


class Limits(unittest.TestCase):
    def test_coefficients_of_size_20(self):
        self.assertEqual(run(field(20, 0)), [[0]])
        self.assertEqual(run(field(-20, 0)), [[2]])
        self.assertEqual(run(field(1, 20)), [[2]])
        self.assertEqual(run(field(1, -20)), [[2]])
        self.assertEqual(run(field(-20, 20, -20, 20)), [[2]])
        self.assertEqual(run(field(20, -20, 20, -20)), [[2]])

    def test_coefficients_above(self):
        for length in (2, 3, 4):
            for place in range(length):
                for outside in (21, -21, HUGE, -HUGE):
                    coefficients = [2] + [0] * (length - 1)
                    coefficients[place] = outside
                    self.assertEqual(refused_then_told(*coefficients), KEPT_AS_IT_WAS, coefficients)

    def test_how_many(self):
        for coefficients in ((), (1,), (0,), (-2, 0, 0, 0, 0), (-2, 0, 0, 0, 0, 0)):
            self.assertEqual(refused_then_told(*coefficients), KEPT_AS_IT_WAS, coefficients)

    def test_too_large_and_to_be_parted(self):
        self.assertEqual(run(field(0, 21)), [[-1]])
        self.assertEqual(run(field(-25, 0)), [[-1]])
        self.assertEqual(run(field(0, 0, 0, 0, 0)), [[-1]])


class Parted(unittest.TestCase):
    def check(self, *coefficients):
        found = refused_then_told(*coefficients)
        self.assertEqual(found[2], [-3], coefficients)
        self.assertEqual(found[3], KEPT_AS_IT_WAS[3], coefficients)

    def test_degrees_1_and_1(self):
        self.check(-1, 0)
        self.check(0, 0)
        self.check(0, 20)
        self.check(1, 2)
        self.check(-20, 19)
        self.check(-20, -19)

    def test_degrees_1_and_2(self):
        self.check(-1, 0, 0)
        self.check(0, 0, 0)
        self.check(0, 1, 0)
        self.check(8, 0, 0)
        self.check(-20, 20, -1)
        self.check(-20, 1, -20)
        self.check(20, 1, 20)

    def test_degrees_1_and_3(self):
        self.check(2, -2, 0, -1)
        self.check(0, -2, 0, 0)
        self.check(-20, 1, 0, -20)
        self.check(20, 1, 0, 20)
        self.check(-16, 0, 0, 0)
        self.check(0, 0, 0, 0)

    def test_degrees_2_and_2(self):
        self.check(4, 0, 0, 0)
        self.check(1, 0, 1, 0)
        self.check(1, 0, 2, 0)
        self.check(-2, 0, 1, 0)
        self.check(6, 5, 6, 2)
        self.check(20, 9, 10, 2)
        self.check(1, 6, 11, 6)
        self.check(1, -20, 2, -20)

    def test_degree_4_without_root(self):
        # x^4 + 4 and x^4 + x x + 1 have no real root and can be parted;
        # x^4 + 1 and x^4 - 10 x x + 1 can't, though they can be by every prime.
        self.check(4, 0, 0, 0)
        self.check(1, 0, 1, 0)
        self.assertEqual(run(field(1, 0, 0, 0)), [[0]])
        self.assertEqual(run(field(1, 0, -10, 0)), [[4]])
        self.assertEqual(run(field(5, 0, 0, 0)), [[0]])

    def test_every_small_one(self):
        for length, reach in ((2, 8), (3, 4), (4, 2)):
            for coefficients in itertools.product(range(-reach, reach + 1), repeat=length):
                expected = Model().field(list(coefficients))
                self.assertEqual(run(field(*coefficients)), [expected], coefficients)

    def test_products(self):
        chance = random.Random(4)
        tried = 0
        while tried < 300:
            a, b, c, d = [chance.randint(-6, 6) for one in range(4)]
            product = [b * d, a * d + b * c, b + d + a * c, a + c]
            if max(map(abs, product)) <= 20:
                tried += 1
                self.assertEqual(run(field(*product)), [[-3]], product)

    def test_any(self):
        chance = random.Random(5)
        for one in range(400):
            coefficients = [chance.randint(-20, 20) for one in range(chance.randint(2, 4))]
            expected = Model().field(coefficients)
            self.assertEqual(run(field(*coefficients)), [expected], coefficients)


class NewField(unittest.TestCase):
    def test_at_the_beginning(self):
        self.assertEqual(run(told(0)), [[-2]])
        self.assertEqual(
            run(number(0, 1, 1, 1), times(0, 0), told(1), norm(0)),
            [[0], [1], [0, -1, 1, 0, 1], [0, 1, 1]])

    def test_without_numbers(self):
        found = run(number(1, 1, 2, 1), number(3, 1, 4, 1), field(-2, 0), told(0), number(5, 1, 0, 1), told(0))
        self.assertEqual(found, [[0], [1], [2], [-2], [0], [0, 5, 1, 0, 1]])

    def test_the_same_field_again(self):
        self.assertEqual(run(number(1, 1, 2, 1), field(1, 0), told(0)), [[0], [0], [-2]])

    def test_a_refused_one_is_not_the_field(self):
        for refused in ((1, 2), (21, 0, 0)):
            found = last(field(-2, 0), number(0, 1, 1, 1), field(*refused), times(0, 0), told(1))
            self.assertEqual(found, [0, 2, 1, 0, 1])

    def test_room_again(self):
        full = [number(k, 1, 0, 1) for k in range(8)]
        self.assertEqual(last(*full, number(1, 1, 1, 1)), [-5])
        self.assertEqual(last(*full, field(3, 0), number(1, 1, 1, 1)), [0])


if __name__ == "__main__":
    unittest.main()
