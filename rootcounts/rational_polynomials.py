"""Polynomials as they are stored: lists of fractions by ascending power, the last one not 0."""

from rootcounts.rationals import common_divisor, lowest_terms
from rootcounts.whole_polynomials import scaled_value, trimmed


def over_denominator(coefficients, denominator):
    """Answer the polynomial with the coefficients coefficients[i] / denominator."""
    return [lowest_terms(numerator, denominator) for numerator in trimmed(coefficients)]


def common_denominator(polynomial):
    """Answer the smallest positive number that all denominators divide."""
    common = 1
    for numerator, denominator in polynomial:
        common = common // common_divisor(common, denominator) * denominator
    return common


def whole_multiple(polynomial):
    """Answer the polynomial times its common denominator, with whole coefficients."""
    common = common_denominator(polynomial)
    return [numerator * (common // denominator) for numerator, denominator in polynomial]


def value_at(polynomial, numerator, denominator):
    """Answer the value at numerator / denominator as a fraction."""
    scale = common_denominator(polynomial)
    for power in range(1, len(polynomial)):
        scale *= denominator
    return lowest_terms(scaled_value(whole_multiple(polynomial), numerator, denominator), scale)


def counted_fractions(pairs):
    """Answer how many fractions there are, then the numerator and denominator of each."""
    counted = [len(pairs)]
    for numerator, denominator in pairs:
        counted.append(numerator)
        counted.append(denominator)
    return counted
