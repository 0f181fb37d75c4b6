"""Reckoning with whole numbers: fractions, the numbers of a field, and its polynomial.

A fraction is a list of two, above and below. A number of a field is a list of its
places, each a fraction, one behind another. A field is told by the coefficients of its
polynomial without the highest one, which is 1; a polynomial has all its coefficients,
from that of x to the 0 on.
"""


def greatest_divisor(one, other):
    """The greatest whole number that divides both; not both are 0."""
    while other != 0:
        one, other = other, one % other
    return abs(one)


def in_lowest_terms(above, below):
    """The fraction in lowest terms, with the number below above 0."""
    divisor = greatest_divisor(above, below)
    if below < 0:
        divisor = -divisor
    return [above // divisor, below // divisor]


def over_one_below(places):
    """The places as whole numbers above one number below that all of them share."""
    below = 1
    for one in places[1::2]:
        below = below * one // greatest_divisor(below, one)
    above = [one * (below // own) for one, own in zip(places[0::2], places[1::2])]
    return above, below


def places_of(above, below):
    """The places of whole numbers above one number below."""
    places = []
    for one in above:
        places.extend(in_lowest_terms(one, below))
    return places


def sum_of(left, right):
    """The sum of two numbers."""
    left_above, left_below = over_one_below(left)
    right_above, right_below = over_one_below(right)
    above = [one * right_below + other * left_below for one, other in zip(left_above, right_above)]
    return places_of(above, left_below * right_below)


def difference_of(left, right):
    """The left number less the right one."""
    above, below = over_one_below(right)
    return sum_of(left, places_of(above, -below))


def times_root(coefficients, row):
    """The row of places times the root t: t to the n is put in terms of the lower powers."""
    top = row[-1]
    return [one - top * coefficient for one, coefficient in zip([0] + row[:-1], coefficients)]


def rows_of(coefficients, above):
    """What the number with these whole places makes of 1, t, t t and so on: a row of places each."""
    rows = [above]
    while len(rows) < len(coefficients):
        rows.append(times_root(coefficients, rows[-1]))
    return rows


def product_of(coefficients, left, right):
    """The product of two numbers."""
    left_above, left_below = over_one_below(left)
    right_above, right_below = over_one_below(right)
    above = [0 for one in coefficients]
    for row, factor in zip(rows_of(coefficients, left_above), right_above):
        above = [one + factor * other for one, other in zip(above, row)]
    return places_of(above, left_below * right_below)


def determinant(rows):
    """The determinant of rows of whole numbers, parted along the first row."""
    if not rows:
        return 1
    total = 0
    sign = 1
    for column, factor in enumerate(rows[0]):
        smaller = [row[:column] + row[column + 1:] for row in rows[1:]]
        total = total + sign * factor * determinant(smaller)
        sign = -sign
    return total


def quotient_of(coefficients, left, right):
    """The left number divided by the right one, which is not 0."""
    left_above, left_below = over_one_below(left)
    right_above, right_below = over_one_below(right)
    rows = rows_of(coefficients, right_above)
    # The quotient's places are what the rows of the right number are multiplied
    # with to give the left one in their sum: Cramer's rule finds each.
    above = []
    for place in range(len(rows)):
        replaced = rows[:place] + [left_above] + rows[place + 1:]
        above.append(determinant(replaced) * right_below)
    return places_of(above, determinant(rows) * left_below)


def norm_of(coefficients, number):
    """The determinant of the number's rows."""
    above, below = over_one_below(number)
    rows = rows_of(coefficients, above)
    below_all_rows = 1
    for row in rows:
        below_all_rows = below_all_rows * below
    return in_lowest_terms(determinant(rows), below_all_rows)


def value_at(polynomial, point):
    """What comes of the polynomial with the point for x."""
    value = 0
    for coefficient in reversed(polynomial):
        value = value * point + coefficient
    return value


def whole_roots(polynomial):
    """The whole numbers that a polynomial with the highest coefficient 1 has as roots."""
    # Cauchy's bound: no root has a size above this.
    bound = 1 + max([abs(coefficient) for coefficient in polynomial])
    return [point for point in range(-bound, bound + 1) if value_at(polynomial, point) == 0]


def parts_into_quadratics(polynomial):
    """Whether a polynomial of degree 4 without whole roots is a product of two of degree 2."""
    c0, c1, c2, c3 = polynomial[:4]
    # The parts are b + a x + x x and d + c x + x x. With b and d chosen, a + c and a c
    # are known, so that a is a root of x x - (a + c) x + a c.
    for b in range(-abs(c0), abs(c0) + 1):
        if b != 0 and c0 % b == 0:
            d = c0 // b
            for a in whole_roots([c2 - b - d, -c3, 1]):
                if a * d + (c3 - a) * b == c1:
                    return True
    return False


def can_be_parted(polynomial):
    """Whether it is a product of two of lower degree; its degree is 2 to 4, its highest coefficient 1."""
    # Of two parts of degrees that make up 2 or 3, one is of degree 1.
    if whole_roots(polynomial):
        return True
    return len(polynomial) == 5 and parts_into_quadratics(polynomial)


def without_zero_tops(polynomial):
    """The polynomial up to its highest coefficient that is not 0."""
    length = len(polynomial)
    while length > 0 and polynomial[length - 1] == 0:
        length = length - 1
    return polynomial[:length]


def rest_of_division(dividend, divisor):
    """What is left of the dividend, times a whole number above 0 that keeps it whole."""
    size = abs(divisor[-1])
    sign = 1 if divisor[-1] > 0 else -1
    rest = dividend
    while len(rest) >= len(divisor):
        top = sign * rest[-1]
        shifted = [0 for step in range(len(rest) - len(divisor))] + divisor
        rest = without_zero_tops([size * one - top * other for one, other in zip(rest, shifted)])
    return rest


def sturm_chain(polynomial):
    """Sturm's chain of a polynomial without double roots."""
    slope = [power * coefficient for power, coefficient in enumerate(polynomial)][1:]
    chain = [polynomial, slope]
    while len(chain[-1]) > 1:
        rest = rest_of_division(chain[-2], chain[-1])
        chain.append([-one for one in rest])
    return chain


def count_changes(values):
    """How often the sign changes from one value to the next one; none is 0."""
    return sum([1 for one, other in zip(values, values[1:]) if (one < 0) != (other < 0)])


def count_real_roots(polynomial):
    """How many real roots a polynomial without double roots has."""
    # Far enough out, the highest coefficient alone gives the sign.
    far_above = [one[-1] for one in sturm_chain(polynomial)]
    far_below = [one[-1] if len(one) % 2 == 1 else -one[-1] for one in sturm_chain(polynomial)]
    return count_changes(far_below) - count_changes(far_above)
