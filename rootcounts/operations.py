"""The calls 0 to 10: each takes the slots and its arguments and answers its numbers.

The slots are a list of polynomials, which is empty until create has been called.
"""

from rootcounts.checks import SLOT_COUNT, check_argument, check_coefficients, check_interval, check_slot
from rootcounts.errors import ZeroPolynomial
from rootcounts.rational_polynomials import counted_fractions, over_denominator, value_at, whole_multiple
from rootcounts.sturm import count_in_interval, multiplicity_at, point_above_all, point_below_all


def stored_polynomial(slots, slot):
    """Answer the polynomial of a slot, which has to exist."""
    check_slot(slot)
    return slots[slot]


def nonzero_polynomial(slots, slot):
    """Answer the polynomial of a slot, which has to exist and not to be zero."""
    polynomial = stored_polynomial(slots, slot)
    if not polynomial:
        raise ZeroPolynomial()
    return polynomial


def count_all(polynomial):
    """Answer how many different roots there are, and their number with multiplicity."""
    return count_in_interval(whole_multiple(polynomial), point_below_all(), point_above_all())


def create(slots, arguments):
    """Set all slots to the zero polynomial."""
    slots.clear()
    slots.extend([[] for slot in range(SLOT_COUNT)])
    return [0]


def set_polynomial(slots, arguments):
    """Store a polynomial and answer it."""
    slot, denominator, coefficients = arguments
    check_slot(slot)
    check_coefficients(denominator, coefficients)
    slots[slot] = over_denominator(coefficients, denominator)
    return counted_fractions(slots[slot])


def get_polynomial(slots, arguments):
    """Answer the polynomial of a slot."""
    return counted_fractions(stored_polynomial(slots, arguments[0]))


def degree(slots, arguments):
    """Answer the degree of a polynomial."""
    return [len(nonzero_polynomial(slots, arguments[0])) - 1]


def evaluate(slots, arguments):
    """Answer 0 and the value of a polynomial at the argument."""
    slot, numerator, denominator = arguments
    polynomial = stored_polynomial(slots, slot)
    check_argument(numerator, denominator)
    value_numerator, value_denominator = value_at(polynomial, numerator, denominator)
    return [0, value_numerator, value_denominator]


def count_distinct_roots(slots, arguments):
    """Answer the number of different roots."""
    distinct, total = count_all(nonzero_polynomial(slots, arguments[0]))
    return [distinct]


def count_roots(slots, arguments):
    """Answer the number of roots, counted with multiplicity."""
    distinct, total = count_all(nonzero_polynomial(slots, arguments[0]))
    return [total]


def is_real_rooted(slots, arguments):
    """Answer 1 if the roots, counted with multiplicity, are as many as the degree, else 0."""
    polynomial = nonzero_polynomial(slots, arguments[0])
    distinct, total = count_all(polynomial)
    return [1 if total == len(polynomial) - 1 else 0]


def count_roots_between(slots, arguments):
    """Answer how many roots lie above low and at most at high: different ones, and all."""
    slot, low_numerator, low_denominator, high_numerator, high_denominator = arguments
    polynomial = nonzero_polynomial(slots, slot)
    check_interval(low_numerator, low_denominator, high_numerator, high_denominator)
    low = (low_numerator, low_denominator)
    high = (high_numerator, high_denominator)
    return list(count_in_interval(whole_multiple(polynomial), low, high))


def count_roots_up_to(slots, arguments):
    """Answer how many roots are at most the argument, counted with multiplicity."""
    slot, numerator, denominator = arguments
    polynomial = nonzero_polynomial(slots, slot)
    check_argument(numerator, denominator)
    high = (numerator, denominator)
    distinct, total = count_in_interval(whole_multiple(polynomial), point_below_all(), high)
    return [total]


def multiplicity(slots, arguments):
    """Answer the multiplicity of the argument as a root."""
    slot, numerator, denominator = arguments
    polynomial = nonzero_polynomial(slots, slot)
    check_argument(numerator, denominator)
    return [multiplicity_at(whole_multiple(polynomial), numerator, denominator)]


OPERATIONS = {
    0: create,
    1: set_polynomial,
    2: get_polynomial,
    3: degree,
    4: evaluate,
    5: count_distinct_roots,
    6: count_roots,
    7: is_real_rooted,
    8: count_roots_between,
    9: count_roots_up_to,
    10: multiplicity,
}
