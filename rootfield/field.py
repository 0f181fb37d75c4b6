"""The calls about one field and the numbers that are kept of it.

A number is kept as its places, each of them above and below in lowest terms, in one list.
"""

from rootfield.reckoning import (
    can_be_parted,
    count_real_roots,
    difference_of,
    in_lowest_terms,
    least_of,
    norm_of,
    polynomial_of,
    product_of,
    quotient_of,
    signs_of,
    sum_of,
    trace_of,
)

MOST_NUMBERS = 8
LARGEST_KEPT = 1000000000000000000
LARGEST_COEFFICIENT = 20
LARGEST_HANDED_IN = 1000


class Kept:
    """The field and its numbers, as they are between two calls."""

    def __init__(self):
        self.coefficients = [1, 0]
        self.numbers = []


def all_within(values, least, greatest):
    """Whether none of the values is below the least or above the greatest."""
    return all([least <= value <= greatest for value in values])


def keep(kept, places):
    """Keep a number, if there is room for it and it is not too large."""
    if len(kept.numbers) >= MOST_NUMBERS:
        return [-5]
    if not all_within(places, -LARGEST_KEPT, LARGEST_KEPT):
        return [-8]
    kept.numbers.append(places)
    return [len(kept.numbers) - 1]


def answer_field(kept, coefficients):
    """Make it the field of these coefficients, without numbers."""
    if not 2 <= len(coefficients) <= 4:
        return [-1]
    if not all_within(coefficients, -LARGEST_COEFFICIENT, LARGEST_COEFFICIENT):
        return [-1]
    if can_be_parted(coefficients + [1]):
        return [-3]
    kept.coefficients = coefficients
    kept.numbers = []
    return [count_real_roots(coefficients)]


def answer_number(kept, handed_in):
    """Keep the number whose places are handed in, above and below."""
    if len(handed_in) != 2 * len(kept.coefficients):
        return [-1]
    above = handed_in[0::2]
    below = handed_in[1::2]
    if not all_within(above, -LARGEST_HANDED_IN, LARGEST_HANDED_IN):
        return [-1]
    if not all_within(below, 1, LARGEST_HANDED_IN):
        return [-1]
    places = []
    for one_above, one_below in zip(above, below):
        places.extend(in_lowest_terms(one_above, one_below))
    return keep(kept, places)


def answer_plus(kept, chosen):
    """Keep the sum of two numbers."""
    return keep(kept, sum_of(chosen[0], chosen[1]))


def answer_minus(kept, chosen):
    """Keep the first number less the second one."""
    return keep(kept, difference_of(chosen[0], chosen[1]))


def answer_times(kept, chosen):
    """Keep the product of two numbers."""
    return keep(kept, product_of(kept.coefficients, chosen[0], chosen[1]))


def answer_by(kept, chosen):
    """Keep the first number divided by the second one."""
    if not any(chosen[1][0::2]):
        return [-3]
    return keep(kept, quotient_of(kept.coefficients, chosen[0], chosen[1]))


def answer_told(kept, chosen):
    """Tell the places of a number."""
    return [0] + chosen[0]


def answer_norm(kept, chosen):
    """Tell the norm of a number."""
    return [0] + norm_of(kept.coefficients, chosen[0])


def answer_trace(kept, chosen):
    """Tell the trace of a number."""
    return [0] + trace_of(kept.coefficients, chosen[0])


def answer_polynomial(kept, chosen):
    """Tell the polynomial of a number."""
    return [0] + polynomial_of(kept.coefficients, chosen[0])


def answer_least(kept, chosen):
    """Tell the least polynomial of a number, its degree ahead."""
    least = least_of(kept.coefficients, chosen[0])
    return [len(least) // 2 - 1] + least


def answer_whole(kept, chosen):
    """Tell whether a number is whole."""
    polynomial = polynomial_of(kept.coefficients, chosen[0])
    return [1 if all_within(polynomial[1::2], 1, 1) else 0]


def answer_signs(kept, chosen):
    """Tell the signs of a number at the real roots, how many they are ahead."""
    signs = signs_of(kept.coefficients, chosen[0])
    return [len(signs)] + signs


def answer_alike(kept, chosen):
    """Tell whether two numbers have the same least polynomial."""
    same = least_of(kept.coefficients, chosen[0]) == least_of(kept.coefficients, chosen[1])
    return [1 if same else 0]


def answer_drop(kept, chosen):
    """Keep the last number no longer; none is chosen."""
    if not kept.numbers:
        return [-4]
    kept.numbers.pop()
    return [len(kept.numbers)]


# A call of the first kind hands in a row with its length ahead of it, one of
# the second kind names numbers, as many as stand here, be it none.
CALLS_WITH_A_ROW = {0: answer_field, 1: answer_number}
CALLS_WITH_NAMES = {
    2: answer_plus,
    3: answer_minus,
    4: answer_times,
    5: answer_by,
    6: answer_told,
    7: answer_norm,
    8: answer_trace,
    9: answer_polynomial,
    10: answer_least,
    11: answer_whole,
    12: answer_signs,
    13: answer_alike,
    14: answer_drop,
}
HOW_MANY_NAMES = {2: 2, 3: 2, 4: 2, 5: 2, 6: 1, 7: 1, 8: 1, 9: 1, 10: 1, 11: 1, 12: 1, 13: 2, 14: 0}


def answer_with_names(kept, call, names):
    """Answer a call that names numbers, once all of them are there."""
    if not all([name < len(kept.numbers) for name in names]):
        return [-2]
    chosen = [kept.numbers[name] for name in names]
    return CALLS_WITH_NAMES[call](kept, chosen)


def answers(calls):
    """Answer the calls, one behind another: of each how many numbers it answers, then these."""
    kept = Kept()
    given = []
    at = 0
    while at < len(calls):
        call = calls[at]
        if call in CALLS_WITH_A_ROW:
            first = at + 2
            at = first + calls[at + 1]
            answer = CALLS_WITH_A_ROW[call](kept, calls[first:at])
        else:
            first = at + 1
            at = first + HOW_MANY_NAMES[call]
            answer = answer_with_names(kept, call, calls[first:at])
        given.append(len(answer))
        given.extend(answer)
    return given
