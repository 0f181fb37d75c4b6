"""Calls as they are handed in, and a second program that answers them another way."""

from fractions import Fraction

from rootfield.field import answers

HUGE = 9007199254740992


def field(*coefficients):
    return [0, len(coefficients), *coefficients]


def number(*places):
    return [1, len(places), *places]


def plus(i, j):
    return [2, i, j]


def minus(i, j):
    return [3, i, j]


def times(i, j):
    return [4, i, j]


def by(i, j):
    return [5, i, j]


def told(i):
    return [6, i]


def norm(i):
    return [7, i]


def flat(calls):
    return [one for call in calls for one in call]


def parted(given):
    """The answers, each a list, by the lengths that stand before them."""
    lists, at = [], 0
    while at < len(given):
        end = at + 1 + given[at]
        assert end <= len(given), given
        lists.append(given[at + 1:end])
        at = end
    return lists


def run(*calls):
    lists = parted(answers(flat(calls)))
    assert len(lists) == len(calls), lists
    return lists


def last(*calls):
    return run(*calls)[-1]


def multiplied(one, other):
    product = [0] * (len(one) + len(other) - 1)
    for i, a in enumerate(one):
        for j, b in enumerate(other):
            product[i + j] += a * b
    return product


def rest_by(dividend, divisor):
    """The rest of a division by a polynomial whose highest coefficient is 1."""
    rest = list(dividend)
    while len(rest) >= len(divisor):
        top = rest.pop()
        for back in range(2, len(divisor) + 1):
            rest[1 - back] -= top * divisor[-back]
    return rest


def has_parts(polynomial):
    """By trial: every x - r, and for degree 4 every x x + a x + b that may divide."""
    reach = range(-21, 22)
    if any(not any(rest_by(polynomial, [-r, 1])) for r in reach):
        return True
    if len(polynomial) < 5:
        return False
    return any(
        not any(rest_by(polynomial, [b, a, 1]))
        for b in range(-20, 21) if b and polynomial[0] % b == 0
        for a in range(-42, 43)
    )


def real_roots(polynomial):
    """By the discriminant, which differs from 0 for what can't be parted."""
    if len(polynomial) == 3:
        c, b, a = polynomial
        return 2 if b * b - 4 * a * c > 0 else 0
    if len(polynomial) == 4:
        d, c, b, a = polynomial
        disc = 18*a*b*c*d - 4*b**3*d + b*b*c*c - 4*a*c**3 - 27*a*a*d*d
        return 3 if disc > 0 else 1
    e, d, c, b, a = polynomial
    disc = (256*a**3*e**3 - 192*a*a*b*d*e*e - 128*a*a*c*c*e*e + 144*a*a*c*d*d*e - 27*a*a*d**4
            + 144*a*b*b*c*e*e - 6*a*b*b*d*d*e - 80*a*b*c*c*d*e + 18*a*b*c*d**3 + 16*a*c**4*e
            - 4*a*c**3*d*d - 27*b**4*e*e + 18*b**3*c*d*e - 4*b**3*d**3 - 4*b*b*c**3*e + b*b*c*c*d*d)
    if disc < 0:
        return 2
    p = 8*a*c - 3*b*b
    q = 64*a**3*e - 16*a*a*c*c + 16*a*b*b*c - 16*a*a*b*d - 3*b**4
    return 4 if p < 0 and q < 0 else 0


def solved(columns, wanted):
    """The factors with which the columns make up what is wanted, and the determinant."""
    n = len(columns)
    rows = [[Fraction(columns[k][r]) for k in range(n)] + [Fraction(wanted[r])] for r in range(n)]
    size = Fraction(1)
    for k in range(n):
        found = next((r for r in range(k, n) if rows[r][k]), None)
        if found is None:
            return None, Fraction(0)
        if found != k:
            rows[k], rows[found] = rows[found], rows[k]
            size = -size
        size *= rows[k][k]
        rows[k] = [one / rows[k][k] for one in rows[k]]
        for r in range(n):
            if r != k:
                rows[r] = [one - rows[r][k] * other for one, other in zip(rows[r], rows[k])]
    return [row[-1] for row in rows], size


def as_told(fractions):
    return [part for one in fractions for part in (one.numerator, one.denominator)]


class Model:
    """The document's calls over Python's own fractions, by division of polynomials."""

    def __init__(self):
        self.polynomial = [1, 0, 1]
        self.numbers = []

    def powers(self, a):
        """a, a t, a t t and so on."""
        n = len(self.polynomial) - 1
        return [(rest_by([0] * k + a, self.polynomial) + [0] * n)[:n] for k in range(n)]

    def keep(self, a):
        if len(self.numbers) == 8:
            return [-5]
        if any(max(abs(one.numerator), one.denominator) > 10**18 for one in a):
            return [-8]
        self.numbers.append(a)
        return [len(self.numbers) - 1]

    def field(self, coefficients):
        if len(coefficients) not in (2, 3, 4) or max(map(abs, coefficients)) > 20:
            return [-1]
        if has_parts(coefficients + [1]):
            return [-3]
        self.polynomial, self.numbers = coefficients + [1], []
        return [real_roots(self.polynomial)]

    def number(self, places):
        if len(places) != 2 * len(self.polynomial) - 2:
            return [-1]
        pairs = list(zip(places[::2], places[1::2]))
        if any(not (-1000 <= a <= 1000 and 1 <= b <= 1000) for a, b in pairs):
            return [-1]
        return self.keep([Fraction(a, b) for a, b in pairs])

    def reckon(self, call, a, b):
        n = len(self.polynomial) - 1
        if call == 2:
            return [one + other for one, other in zip(a, b)]
        if call == 3:
            return [one - other for one, other in zip(a, b)]
        if call == 4:
            return rest_by(multiplied(a, b), self.polynomial)[:n]
        return solved(self.powers(b), a)[0]

    def answer(self, call):
        if call[0] < 2:
            return (self.field, self.number)[call[0]](call[2:])
        if max(call[1:]) >= len(self.numbers):
            return [-2]
        chosen = [self.numbers[name] for name in call[1:]]
        if call[0] == 6:
            return [0] + as_told(chosen[0])
        if call[0] == 7:
            return [0] + as_told([solved(self.powers(chosen[0]), chosen[0])[1]])
        if call[0] == 5 and not any(chosen[1]):
            return [-3]
        return self.keep(self.reckon(call[0], *chosen))
