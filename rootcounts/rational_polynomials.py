"""Polynomials as they are stored: lists of fractions by ascending power, the last one not 0."""

from rootcounts.rationals import common_divisor, lowest_terms
from rootcounts.whole_polynomials import scaled_value, trimmed, whole_derivative, whole_product
from rootcounts.whole_polynomials import with_positive_lead


def over_denominator(coefficients, denominator):
    """Answer the polynomial with the coefficients coefficients[i] / denominator."""
    return [lowest_terms(numerator, denominator) for numerator in trimmed(coefficients)]


def common_denominator(polynomial):
    """Answer the smallest positive number that all denominators divide."""
    common = 1
    for numerator, denominator in polynomial:
        common = common // common_divisor(common, denominator) * denominator
    return common


def whole_multiple(polynomial):
    """Answer the polynomial times its common denominator, with whole coefficients."""
    common = common_denominator(polynomial)
    return [numerator * (common // denominator) for numerator, denominator in polynomial]


def monic(whole_polynomial):
    """Answer the multiple of a nonzero polynomial with whole coefficients whose last coefficient is 1."""
    polynomial = with_positive_lead(whole_polynomial)
    return over_denominator(polynomial, polynomial[-1])


def derivative_of(polynomial):
    """Answer the derivative."""
    return over_denominator(whole_derivative(whole_multiple(polynomial)), common_denominator(polynomial))


def product_of(first, second):
    """Answer the product of two polynomials."""
    if not first or not second:
        return []
    denominator = common_denominator(first) * common_denominator(second)
    return over_denominator(whole_product(whole_multiple(first), whole_multiple(second)), denominator)


def value_at(polynomial, numerator, denominator):
    """Answer the value at numerator / denominator as a fraction."""
    scale = common_denominator(polynomial)
    for power in range(1, len(polynomial)):
        scale *= denominator
    return lowest_terms(scaled_value(whole_multiple(polynomial), numerator, denominator), scale)


def counted_pairs(pairs):
    """Answer how many pairs of numbers there are, then the two numbers of each."""
    counted = [len(pairs)]
    for first, second in pairs:
        counted.append(first)
        counted.append(second)
    return counted
