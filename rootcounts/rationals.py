"""Whole numbers and fractions: a fraction is a tuple, numerator and denominator."""


def common_divisor(first, second):
    """Answer the greatest common divisor of two whole numbers, 0 if both are 0."""
    first = abs(first)
    second = abs(second)
    while second != 0:
        rest = first % second
        first = second
        second = rest
    return first


def lowest_terms(numerator, denominator):
    """Answer the fraction with these two; the denominator has to be above 0."""
    divisor = common_divisor(numerator, denominator)
    return (numerator // divisor, denominator // divisor)
