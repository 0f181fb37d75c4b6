"""Calls as they are handed in, and a second program that answers them another way."""

import functools
from fractions import Fraction

from rootfield.field import answers

HUGE = 9007199254740992


def field(*coefficients):
    return [0, len(coefficients), *coefficients]


def number(*places):
    return [1, len(places), *places]


def plus(i, j):
    return [2, i, j]


def minus(i, j):
    return [3, i, j]


def times(i, j):
    return [4, i, j]


def by(i, j):
    return [5, i, j]


def told(i):
    return [6, i]


def norm(i):
    return [7, i]


def trace(i):
    return [8, i]


def polynomial(i):
    return [9, i]


def least(i):
    return [10, i]


def whole(i):
    return [11, i]


def signs(i):
    return [12, i]


def alike(i, j):
    return [13, i, j]


def drop():
    return [14]


def flat(calls):
    return [one for call in calls for one in call]


def parted(given):
    """The answers, each a list, by the lengths that stand before them."""
    lists, at = [], 0
    while at < len(given):
        end = at + 1 + given[at]
        assert end <= len(given), given
        lists.append(given[at + 1:end])
        at = end
    return lists


def run(*calls):
    lists = parted(answers(flat(calls)))
    assert len(lists) == len(calls), lists
    return lists


def last(*calls):
    return run(*calls)[-1]


def multiplied(one, other):
    product = [0] * (len(one) + len(other) - 1)
    for i, a in enumerate(one):
        for j, b in enumerate(other):
            product[i + j] += a * b
    return product


def rest_by(dividend, divisor):
    """The rest of a division by a polynomial whose highest coefficient is 1."""
    rest = list(dividend)
    while len(rest) >= len(divisor):
        top = rest.pop()
        for back in range(2, len(divisor) + 1):
            rest[1 - back] -= top * divisor[-back]
    return rest


def has_parts(polynomial):
    """By trial: every x - r, and for degree 4 every x x + a x + b that may divide."""
    reach = range(-21, 22)
    if any(not any(rest_by(polynomial, [-r, 1])) for r in reach):
        return True
    if len(polynomial) < 5:
        return False
    return any(
        not any(rest_by(polynomial, [b, a, 1]))
        for b in range(-20, 21) if b and polynomial[0] % b == 0
        for a in range(-42, 43)
    )


def real_roots(polynomial):
    """By the discriminant, which differs from 0 for what can't be parted."""
    if len(polynomial) == 3:
        c, b, a = polynomial
        return 2 if b * b - 4 * a * c > 0 else 0
    if len(polynomial) == 4:
        d, c, b, a = polynomial
        disc = 18*a*b*c*d - 4*b**3*d + b*b*c*c - 4*a*c**3 - 27*a*a*d*d
        return 3 if disc > 0 else 1
    e, d, c, b, a = polynomial
    disc = (256*a**3*e**3 - 192*a*a*b*d*e*e - 128*a*a*c*c*e*e + 144*a*a*c*d*d*e - 27*a*a*d**4
            + 144*a*b*b*c*e*e - 6*a*b*b*d*d*e - 80*a*b*c*c*d*e + 18*a*b*c*d**3 + 16*a*c**4*e
            - 4*a*c**3*d*d - 27*b**4*e*e + 18*b**3*c*d*e - 4*b**3*d**3 - 4*b*b*c**3*e + b*b*c*c*d*d)
    if disc < 0:
        return 2
    p = 8*a*c - 3*b*b
    q = 64*a**3*e - 16*a*a*c*c + 16*a*b*b*c - 16*a*a*b*d - 3*b**4
    return 4 if p < 0 and q < 0 else 0


def solved(columns, wanted):
    """The factors with which the columns make up what is wanted, and the determinant if they are square."""
    n = len(columns)
    rows = [[Fraction(one[r]) for one in columns] + [Fraction(wanted[r])] for r in range(len(wanted))]
    size = Fraction(1)
    for k in range(n):
        found = next((r for r in range(k, len(rows)) if rows[r][k]), None)
        if found is None:
            return None, Fraction(0)
        if found != k:
            rows[k], rows[found] = rows[found], rows[k]
            size = -size
        size *= rows[k][k]
        rows[k] = [one / rows[k][k] for one in rows[k]]
        for r in range(len(rows)):
            if r != k:
                rows[r] = [one - rows[r][k] * other for one, other in zip(rows[r], rows[k])]
    if any(row[-1] for row in rows[n:]):
        return None, size
    return [row[-1] for row in rows[:n]], size


def value(coefficients, point):
    return sum(one * point**k for k, one in enumerate(coefficients))


@functools.lru_cache(maxsize=None)
def steps_with_roots(coefficients):
    """For each real root, the least first, a step with it: a grid is made finer till it tells all apart."""
    fine = 2
    while True:
        above = [value(coefficients, Fraction(k, fine)) > 0 for k in range(-21 * fine, 21 * fine + 1)]
        places = [k for k in range(42 * fine) if above[k] != above[k + 1]]
        if len(places) == real_roots(coefficients):
            return [(Fraction(k, fine) - 21, Fraction(k + 1, fine) - 21) for k in places]
        fine *= 2


def sign_within(coefficients, low, high, a):
    """The sign of a at the root between low and high: halved till a can't come to 0 any more."""
    if not any(a):
        return 0
    steepness = sum(k * abs(one) * 21**(k - 1) for k, one in enumerate(a) if k)
    above = value(coefficients, low) > 0
    while True:
        middle = (low + high) / 2
        here = value(a, middle)
        if abs(here) > steepness * (high - low):
            return 1 if here > 0 else -1
        if (value(coefficients, middle) > 0) == above:
            low = middle
        else:
            high = middle


def as_told(fractions):
    return [part for one in fractions for part in (one.numerator, one.denominator)]


class Model:
    """The document's calls over Python's own fractions, by division of polynomials."""

    def __init__(self):
        self.polynomial = [1, 0, 1]
        self.numbers = []

    def powers(self, a):
        """a, a t, a t t and so on."""
        n = len(self.polynomial) - 1
        return [(rest_by([0] * k + a, self.polynomial) + [0] * n)[:n] for k in range(n)]

    def keep(self, a):
        if len(self.numbers) == 8:
            return [-5]
        if any(max(abs(one.numerator), one.denominator) > 10**18 for one in a):
            return [-8]
        self.numbers.append(a)
        return [len(self.numbers) - 1]

    def field(self, coefficients):
        if len(coefficients) not in (2, 3, 4) or max(map(abs, coefficients)) > 20:
            return [-1]
        if has_parts(coefficients + [1]):
            return [-3]
        self.polynomial, self.numbers = coefficients + [1], []
        return [real_roots(self.polynomial)]

    def number(self, places):
        if len(places) != 2 * len(self.polynomial) - 2:
            return [-1]
        pairs = list(zip(places[::2], places[1::2]))
        if any(not (-1000 <= a <= 1000 and 1 <= b <= 1000) for a, b in pairs):
            return [-1]
        return self.keep([Fraction(a, b) for a, b in pairs])

    def reckon(self, call, a, b):
        n = len(self.polynomial) - 1
        if call == 2:
            return [one + other for one, other in zip(a, b)]
        if call == 3:
            return [one - other for one, other in zip(a, b)]
        if call == 4:
            return rest_by(multiplied(a, b), self.polynomial)[:n]
        return solved(self.powers(b), a)[0]

    def polynomial_of(self, a):
        """Put together from the determinants of x times the rows of 1 less those of a, x being 0, 1, 2 ..."""
        rows = self.powers(a)
        n = len(rows)
        values = []
        for x in range(n + 1):
            less = [[(x if r == k else 0) - rows[r][k] for k in range(n)] for r in range(n)]
            values.append(solved(less, [0] * n)[1])
        return solved([[x**k for x in range(n + 1)] for k in range(n + 1)], values)[0]

    def least_of(self, a):
        """The lowest power of a that the ones below it make up."""
        n = len(self.polynomial) - 1
        powers = [[1] + [0] * (n - 1)]
        while True:
            following = self.reckon(4, powers[-1], a)
            factors = solved(powers, following)[0]
            if factors:
                return [-one for one in factors] + [Fraction(1)]
            powers.append(following)

    def signs_of(self, a):
        coefficients = tuple(self.polynomial)
        return [sign_within(coefficients, *step, a) for step in steps_with_roots(coefficients)]

    def tell(self, call, a):
        if call == 6:
            return [0] + as_told(a)
        if call == 7:
            return [0] + as_told([solved(self.powers(a), a)[1]])
        if call == 8:
            return [0] + as_told([sum(row[k] for k, row in enumerate(self.powers(a)))])
        if call == 9:
            return [0] + as_told(self.polynomial_of(a))
        if call == 10:
            return [len(self.least_of(a)) - 1] + as_told(self.least_of(a))
        if call == 11:
            return [int(all(one.denominator == 1 for one in self.polynomial_of(a)))]
        return [real_roots(self.polynomial)] + self.signs_of(a)

    def answer(self, call):
        if call[0] < 2:
            return (self.field, self.number)[call[0]](call[2:])
        if call[0] == 14:
            if not self.numbers:
                return [-4]
            self.numbers.pop()
            return [len(self.numbers)]
        if max(call[1:]) >= len(self.numbers):
            return [-2]
        chosen = [self.numbers[name] for name in call[1:]]
        if call[0] == 13:
            return [int(self.least_of(chosen[0]) == self.least_of(chosen[1]))]
        if call[0] > 5:
            return self.tell(call[0], chosen[0])
        if call[0] == 5 and not any(chosen[1]):
            return [-3]
        return self.keep(self.reckon(call[0], *chosen))
