"""The calls: each takes the slots and its arguments and answers its numbers.

The slots are a list of polynomials, which is empty until create has been called.
"""

from rootcounts.checks import SLOT_COUNT, check_argument, check_bits, check_coefficients, check_interval
from rootcounts.checks import check_max_power, check_result, check_slot
from rootcounts.errors import NoSuchRoot, ZeroPolynomial
from rootcounts.hermite import hermite_matrix, inertia
from rootcounts.newton import violated_index
from rootcounts.rational_polynomials import counted_pairs, derivative_of, monic, over_denominator, product_of
from rootcounts.rational_polynomials import value_at, whole_multiple
from rootcounts.root_floors import cauchy_bound, floor_of_root
from rootcounts.root_sums import power_sum_fractions
from rootcounts.sturm import count_in_interval, multiplicity_at, point_above_all, point_below_all
from rootcounts.whole_polynomials import common_factor, squarefree_part


def stored_polynomial(slots, slot):
    """Answer the polynomial of a slot, which has to exist."""
    check_slot(slot)
    return slots[slot]


def nonzero_polynomial(slots, slot):
    """Answer the polynomial of a slot, which has to exist and not to be zero."""
    polynomial = stored_polynomial(slots, slot)
    if not polynomial:
        raise ZeroPolynomial()
    return polynomial


def count_all(polynomial):
    """Answer how many different roots there are, and their number with multiplicity."""
    return count_in_interval(whole_multiple(polynomial), point_below_all(), point_above_all())


def store_result(slots, target, polynomial):
    """Store a polynomial that may be too large, and answer it."""
    check_result(polynomial)
    slots[target] = polynomial
    return counted_pairs(polynomial)


def create(slots, arguments):
    """Set all slots to the zero polynomial."""
    slots.clear()
    slots.extend([[] for slot in range(SLOT_COUNT)])
    return [0]


def set_polynomial(slots, arguments):
    """Store a polynomial and answer it."""
    slot, denominator, coefficients = arguments
    check_slot(slot)
    check_coefficients(denominator, coefficients)
    slots[slot] = over_denominator(coefficients, denominator)
    return counted_pairs(slots[slot])


def get_polynomial(slots, arguments):
    """Answer the polynomial of a slot."""
    return counted_pairs(stored_polynomial(slots, arguments[0]))


def degree(slots, arguments):
    """Answer the degree of a polynomial."""
    return [len(nonzero_polynomial(slots, arguments[0])) - 1]


def evaluate(slots, arguments):
    """Answer 0 and the value of a polynomial at the argument."""
    slot, numerator, denominator = arguments
    polynomial = stored_polynomial(slots, slot)
    check_argument(numerator, denominator)
    value_numerator, value_denominator = value_at(polynomial, numerator, denominator)
    return [0, value_numerator, value_denominator]


def count_distinct_roots(slots, arguments):
    """Answer the number of different roots."""
    distinct, total = count_all(nonzero_polynomial(slots, arguments[0]))
    return [distinct]


def count_roots(slots, arguments):
    """Answer the number of roots, counted with multiplicity."""
    distinct, total = count_all(nonzero_polynomial(slots, arguments[0]))
    return [total]


def is_real_rooted(slots, arguments):
    """Answer 1 if the roots, counted with multiplicity, are as many as the degree, else 0."""
    polynomial = nonzero_polynomial(slots, arguments[0])
    distinct, total = count_all(polynomial)
    return [1 if total == len(polynomial) - 1 else 0]


def count_roots_between(slots, arguments):
    """Answer how many roots lie above low and at most at high: different ones, and all."""
    slot, low_numerator, low_denominator, high_numerator, high_denominator = arguments
    polynomial = nonzero_polynomial(slots, slot)
    check_interval(low_numerator, low_denominator, high_numerator, high_denominator)
    low = (low_numerator, low_denominator)
    high = (high_numerator, high_denominator)
    return list(count_in_interval(whole_multiple(polynomial), low, high))


def count_roots_up_to(slots, arguments):
    """Answer how many roots are at most the argument, counted with multiplicity."""
    slot, numerator, denominator = arguments
    polynomial = nonzero_polynomial(slots, slot)
    check_argument(numerator, denominator)
    high = (numerator, denominator)
    distinct, total = count_in_interval(whole_multiple(polynomial), point_below_all(), high)
    return [total]


def multiplicity(slots, arguments):
    """Answer the multiplicity of the argument as a root."""
    slot, numerator, denominator = arguments
    polynomial = nonzero_polynomial(slots, slot)
    check_argument(numerator, denominator)
    return [multiplicity_at(whole_multiple(polynomial), numerator, denominator)]


def root_floor(slots, arguments):
    """Answer 0 and the floor of root k times 2 ^ bits."""
    slot, k, bits = arguments
    polynomial = nonzero_polynomial(slots, slot)
    check_bits(bits)
    distinct, total = count_all(polynomial)
    if k >= total:
        raise NoSuchRoot()
    return [0, floor_of_root(whole_multiple(polynomial), k, bits)]


def root_bound(slots, arguments):
    """Answer a whole number that is above the absolute values of all roots."""
    return [cauchy_bound(whole_multiple(nonzero_polynomial(slots, arguments[0])))]


def squarefree(slots, arguments):
    """Store the monic polynomial that has the same complex roots once each, and answer it."""
    source, target = arguments
    check_slot(source)
    check_slot(target)
    polynomial = nonzero_polynomial(slots, source)
    return store_result(slots, target, monic(squarefree_part(whole_multiple(polynomial))))


def gcd(slots, arguments):
    """Store the monic greatest common divisor of two polynomials, and answer it."""
    first, second, target = arguments
    for slot in (first, second, target):
        check_slot(slot)
    first_whole = whole_multiple(nonzero_polynomial(slots, first))
    second_whole = whole_multiple(nonzero_polynomial(slots, second))
    return store_result(slots, target, monic(common_factor(first_whole, second_whole)))


def derivative(slots, arguments):
    """Store the derivative of a polynomial, and answer it."""
    source, target = arguments
    check_slot(target)
    return store_result(slots, target, derivative_of(stored_polynomial(slots, source)))


def multiply(slots, arguments):
    """Store the product of two polynomials, and answer it."""
    first, second, target = arguments
    check_slot(target)
    product = product_of(stored_polynomial(slots, first), stored_polynomial(slots, second))
    return store_result(slots, target, product)


def power_sums(slots, arguments):
    """Answer how many power sums there are up to max_power, and these."""
    slot, max_power = arguments
    polynomial = nonzero_polynomial(slots, slot)
    check_max_power(max_power)
    return counted_pairs(power_sum_fractions(whole_multiple(polynomial), max_power))


def hermite_inertia(slots, arguments):
    """Answer how many entries above 0 and below 0 the diagonal form of the Hermite matrix has."""
    return list(inertia(hermite_matrix(whole_multiple(nonzero_polynomial(slots, arguments[0])))))


def first_newton_violation(slots, arguments):
    """Answer the first index at which Newton's inequality doesn't hold, 0 if there is none."""
    return [violated_index(whole_multiple(nonzero_polynomial(slots, arguments[0])))]


def largest_roots(slots, arguments):
    """Answer how many polynomials have a root, then for each its slot and the floor of its greatest root."""
    bits = arguments[0]
    check_bits(bits)
    found = []
    for slot, polynomial in enumerate(slots):
        distinct, total = count_all(polynomial) if polynomial else (0, 0)
        if total > 0:
            found.append((slot, floor_of_root(whole_multiple(polynomial), total - 1, bits)))
    return counted_pairs(found)


def summary(slots, arguments):
    """Answer the number of slots, and the number of coefficients in each."""
    return [SLOT_COUNT] + [len(polynomial) for polynomial in slots]


OPERATIONS = {
    0: create,
    1: set_polynomial,
    2: get_polynomial,
    3: degree,
    4: evaluate,
    5: count_distinct_roots,
    6: count_roots,
    7: is_real_rooted,
    8: count_roots_between,
    9: count_roots_up_to,
    10: multiplicity,
    11: root_floor,
    12: root_bound,
    13: squarefree,
    14: gcd,
    15: derivative,
    16: multiply,
    17: power_sums,
    18: hermite_inertia,
    19: first_newton_violation,
    20: largest_roots,
    21: summary,
}
