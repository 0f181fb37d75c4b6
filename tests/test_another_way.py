"""Lines of calls of all kinds, answered by the package and by a second program."""

import random
import unittest

from helper import Model, drop, field, flat, number, parted

from rootfield.field import answers

ONE_NAME = (6, 7, 8, 9, 10, 11, 12)


def any_field(chance):
    reach = chance.choice((3, 20))
    coefficients = [chance.randint(-reach, reach) for place in range(chance.randint(2, 4))]
    if len(coefficients) == 4 and chance.random() < 0.3:
        # In many of these lies a field of degree 2.
        coefficients[1] = coefficients[3] = 0
    return field(*coefficients)


def any_number(chance, degree):
    reach = chance.choice((3, 12, 1000))
    places = []
    for place in range(degree):
        above = chance.choice((0, chance.randint(-reach, reach), chance.randint(-reach, reach)))
        places += [above, chance.randint(1, chance.choice((1, reach)))]
    return number(*places)


def wrong(chance, degree):
    """A field or a number that is refused."""
    return chance.choice((
        field(*[chance.randint(-30, 30) for place in range(degree)], 21), field(0, 1), field(-4, 0), field(1),
        number(*[1, 0] * degree), number(*[1001, 1] * degree), number(*[1, 1] * (degree + 1)), number(),
    ))


def any_call(chance, model):
    """A call that for the most part names numbers that are there."""
    degree = len(model.polynomial) - 1
    kind = chance.choice((1, 2, 3, 4, 4, 4, 5, 13, 14) + ONE_NAME)
    if kind == 1 or not model.numbers and chance.random() < 0.9:
        return any_number(chance, degree)
    if kind == 14:
        return chance.choice((drop(), drop(), drop(), drop(), wrong(chance, degree), any_field(chance)))
    reach = len(model.numbers) - (chance.random() < 0.9)
    names = [chance.randint(0, max(0, reach)) for name in range(2)]
    return [kind] + names[:1 if kind in ONE_NAME else 2]


class AnotherWay(unittest.TestCase):
    def test_any_calls(self):
        chance = random.Random(6)
        seen = {}
        for one in range(300):
            model = Model()
            calls = [any_field(chance)]
            expected = [model.answer(calls[0])]
            while len(calls) < 40:
                calls.append(any_call(chance, model))
                expected.append(model.answer(calls[-1]))
            handed_in = flat(calls)
            self.assertEqual(parted(answers(handed_in)), expected, calls)
            self.assertEqual(handed_in, flat(calls))
            for call, answer in zip(calls, expected):
                seen[call[0], answer[0] if call[0] in (0, 10, 11, 12, 13) else min(answer[0], 0)] = True
        self.assert_seen(seen)

    def assert_seen(self, seen):
        for kind in (2, 3, 4, 5):
            for answer in (0, -2, -5):
                self.assertIn((kind, answer), seen)
        for kind in ONE_NAME + (13,):
            self.assertIn((kind, -2), seen)
        for seldom in ((0, -1), (0, -3), (1, -1), (1, -5), (4, -8), (5, -8), (5, -3), (14, -4), (14, 0)):
            self.assertIn(seldom, seen)
        for kind, found in ((0, range(5)), (10, range(1, 5)), (11, range(2)), (12, range(5)), (13, range(2))):
            for answer in found:
                self.assertIn((kind, answer), seen)


if __name__ == "__main__":
    unittest.main()
