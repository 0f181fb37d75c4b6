"""Reckoning with whole numbers: fractions, the numbers of a field, and its polynomial.

A fraction is a list of two, above and below. A number of a field is a list of its
places, each a fraction, one behind another. A field is told by the coefficients of its
polynomial without the highest one, which is 1; a polynomial has all its coefficients,
from that of x to the 0 on.
"""


def greatest_divisor(one, other):
    """The greatest whole number that divides both; not both are 0."""
    while other != 0:
        one, other = other, one % other
    return abs(one)


def in_lowest_terms(above, below):
    """The fraction in lowest terms, with the number below above 0."""
    divisor = greatest_divisor(above, below)
    if below < 0:
        divisor = -divisor
    return [above // divisor, below // divisor]


def over_one_below(places):
    """The places as whole numbers above one number below that all of them share."""
    below = 1
    for one in places[1::2]:
        below = below * one // greatest_divisor(below, one)
    above = [one * (below // own) for one, own in zip(places[0::2], places[1::2])]
    return above, below


def places_of(above, below):
    """The places of whole numbers above one number below."""
    places = []
    for one in above:
        places.extend(in_lowest_terms(one, below))
    return places


def sum_of(left, right):
    """The sum of two numbers."""
    left_above, left_below = over_one_below(left)
    right_above, right_below = over_one_below(right)
    above = [one * right_below + other * left_below for one, other in zip(left_above, right_above)]
    return places_of(above, left_below * right_below)


def difference_of(left, right):
    """The left number less the right one."""
    above, below = over_one_below(right)
    return sum_of(left, places_of(above, -below))


def times_root(coefficients, row):
    """The row of places times the root t: t to the n is put in terms of the lower powers."""
    top = row[-1]
    return [one - top * coefficient for one, coefficient in zip([0] + row[:-1], coefficients)]


def rows_of(coefficients, above):
    """What the number with these whole places makes of 1, t, t t and so on: a row of places each."""
    rows = [above]
    while len(rows) < len(coefficients):
        rows.append(times_root(coefficients, rows[-1]))
    return rows


def whole_product(coefficients, left, right):
    """The places of the product of two numbers whose places are whole and told without a number below."""
    above = [0 for one in coefficients]
    for row, factor in zip(rows_of(coefficients, left), right):
        above = [one + factor * other for one, other in zip(above, row)]
    return above


def product_of(coefficients, left, right):
    """The product of two numbers."""
    left_above, left_below = over_one_below(left)
    right_above, right_below = over_one_below(right)
    return places_of(whole_product(coefficients, left_above, right_above), left_below * right_below)


def determinant(rows):
    """The determinant of rows of whole numbers, parted along the first row."""
    if not rows:
        return 1
    total = 0
    sign = 1
    for column, factor in enumerate(rows[0]):
        smaller = [row[:column] + row[column + 1:] for row in rows[1:]]
        total = total + sign * factor * determinant(smaller)
        sign = -sign
    return total


def quotient_of(coefficients, left, right):
    """The left number divided by the right one, which is not 0."""
    left_above, left_below = over_one_below(left)
    right_above, right_below = over_one_below(right)
    rows = rows_of(coefficients, right_above)
    # The quotient's places are what the rows of the right number are multiplied
    # with to give the left one in their sum: Cramer's rule finds each.
    above = []
    for place in range(len(rows)):
        replaced = rows[:place] + [left_above] + rows[place + 1:]
        above.append(determinant(replaced) * right_below)
    return places_of(above, determinant(rows) * left_below)


def norm_of(coefficients, number):
    """The determinant of the number's rows."""
    above, below = over_one_below(number)
    rows = rows_of(coefficients, above)
    below_all_rows = 1
    for row in rows:
        below_all_rows = below_all_rows * below
    return in_lowest_terms(determinant(rows), below_all_rows)


def whole_trace(coefficients, above):
    """The sum of what stands in the first place of the first row, and so on, of a number with whole places."""
    return sum([row[place] for place, row in enumerate(rows_of(coefficients, above))])


def trace_of(coefficients, number):
    """The trace of a number."""
    above, below = over_one_below(number)
    return in_lowest_terms(whole_trace(coefficients, above), below)


def whole_polynomial(coefficients, above):
    """The polynomial of a number with whole places; its coefficients are whole."""
    # Leverrier's and Faddeev's way: the coefficients come one by one, the highest
    # first, each of the trace of a product with what the ones ahead have left.
    polynomial = [1]
    left = [1] + [0 for one in coefficients[1:]]
    for step in range(1, len(coefficients) + 1):
        product = whole_product(coefficients, above, left)
        coefficient = -whole_trace(coefficients, product) // step
        polynomial = [coefficient] + polynomial
        left = [product[0] + coefficient] + product[1:]
    return polynomial


def whole_least(coefficients, above):
    """The least polynomial of a number with whole places; its coefficients are whole."""
    if not any(above[1:]):
        return [-above[0], 1]
    polynomial = whole_polynomial(coefficients, above)
    if len(polynomial) == 5:
        # A number's polynomial is a power of its least one. Of a number that is no
        # fraction, the power is the first or, in a field of degree 4, perhaps the second.
        a = polynomial[3] // 2
        b = (polynomial[2] - a * a) // 2
        if polynomial == [b * b, 2 * a * b, a * a + 2 * b, 2 * a, 1]:
            return [b, a, 1]
    return polynomial


def with_roots_divided(polynomial, below):
    """The polynomial, told as fractions, whose roots are those of this one divided by the number below."""
    fractions = []
    power = 1
    for coefficient in reversed(polynomial):
        fractions = in_lowest_terms(coefficient, power) + fractions
        power = power * below
    return fractions


def polynomial_of(coefficients, number):
    """The polynomial of a number, told as fractions."""
    above, below = over_one_below(number)
    return with_roots_divided(whole_polynomial(coefficients, above), below)


def least_of(coefficients, number):
    """The least polynomial of a number, told as fractions."""
    above, below = over_one_below(number)
    return with_roots_divided(whole_least(coefficients, above), below)


def value_at(polynomial, above, below):
    """What comes of the polynomial with a fraction for x, times the number below to the degree."""
    value = 0
    power = 1
    for coefficient in reversed(polynomial):
        value = value * above + coefficient * power
        power = power * below
    return value


def bound_of_roots(polynomial):
    """A whole number above the size of each root of a polynomial with the highest coefficient 1."""
    # Cauchy's bound.
    return 1 + max([abs(coefficient) for coefficient in polynomial])


def whole_roots(polynomial):
    """The whole numbers that a polynomial with the highest coefficient 1 has as roots."""
    bound = bound_of_roots(polynomial)
    return [point for point in range(-bound, bound + 1) if value_at(polynomial, point, 1) == 0]


def parts_into_quadratics(polynomial):
    """Whether a polynomial of degree 4 without whole roots is a product of two of degree 2."""
    c0, c1, c2, c3 = polynomial[:4]
    # The parts are b + a x + x x and d + c x + x x. With b and d chosen, a + c and a c
    # are known, so that a is a root of x x - (a + c) x + a c.
    for b in range(-abs(c0), abs(c0) + 1):
        if b != 0 and c0 % b == 0:
            d = c0 // b
            for a in whole_roots([c2 - b - d, -c3, 1]):
                if a * d + (c3 - a) * b == c1:
                    return True
    return False


def can_be_parted(polynomial):
    """Whether it is a product of two of lower degree; its degree is 2 to 4, its highest coefficient 1."""
    # Of two parts of degrees that make up 2 or 3, one is of degree 1.
    if whole_roots(polynomial):
        return True
    return len(polynomial) == 5 and parts_into_quadratics(polynomial)


def without_zero_tops(polynomial):
    """The polynomial up to its highest coefficient that is not 0."""
    length = len(polynomial)
    while length > 0 and polynomial[length - 1] == 0:
        length = length - 1
    return polynomial[:length]


def rest_of_division(dividend, divisor):
    """What is left of the dividend, times a whole number above 0 that keeps it whole."""
    size = abs(divisor[-1])
    sign = 1 if divisor[-1] > 0 else -1
    rest = dividend
    while len(rest) >= len(divisor):
        top = sign * rest[-1]
        shifted = [0 for step in range(len(rest) - len(divisor))] + divisor
        rest = without_zero_tops([size * one - top * other for one, other in zip(rest, shifted)])
    return rest


def sturm_chain(coefficients, above):
    """Sturm's chain of the field's polynomial, weighed with a number whose places are whole.

    From one point to a higher one, no root among them, it loses as many changes of sign as
    there are roots between them at which the number is above 0, less those at which it is below 0.
    """
    polynomial = coefficients + [1]
    slope = [power * coefficient for power, coefficient in enumerate(polynomial)][1:]
    # At the roots the product in the field is the slope times the number.
    following = without_zero_tops(whole_product(coefficients, slope, above))
    chain = [polynomial]
    while following:
        chain.append(following)
        following = [-one for one in rest_of_division(chain[-2], chain[-1])]
    return chain


def changes_at(chain, above, below):
    """How often the sign changes along the chain at a fraction, which is no root of its first one."""
    values = [value_at(polynomial, above, below) for polynomial in chain]
    # A value that is 0 stands between two of unlike signs: there is one change, whichever sign it counts as.
    return sum([1 for one, other in zip(values, values[1:]) if (one < 0) != (other < 0)])


def unweighed_chain(coefficients):
    """Sturm's chain that loses one change of sign at each real root."""
    return sturm_chain(coefficients, [1] + [0 for one in coefficients[1:]])


def count_real_roots(coefficients):
    """How many real roots the field's polynomial has."""
    chain = unweighed_chain(coefficients)
    bound = bound_of_roots(coefficients + [1])
    return changes_at(chain, -bound, 1) - changes_at(chain, bound, 1)


def real_roots_apart(coefficients):
    """For each real root, the least first, two points with that root alone between them; and their number below."""
    chain = unweighed_chain(coefficients)
    bound = bound_of_roots(coefficients + [1])
    roots = count_real_roots(coefficients)
    gaps = [(-bound, bound)]
    below = 1
    # No fraction is a root of what can't be parted, so none is lost where gaps are halved.
    while len(gaps) != roots:
        below = 2 * below
        halves = []
        for low, high in gaps:
            halves.extend([(2 * low, low + high), (low + high, 2 * high)])
        gaps = [gap for gap in halves if changes_at(chain, gap[0], below) != changes_at(chain, gap[1], below)]
    return gaps, below


def signs_of(coefficients, number):
    """The sign of a number at each real root, the least root first."""
    gaps, below = real_roots_apart(coefficients)
    chain = sturm_chain(coefficients, over_one_below(number)[0])
    return [changes_at(chain, low, below) - changes_at(chain, high, below) for low, high in gaps]
