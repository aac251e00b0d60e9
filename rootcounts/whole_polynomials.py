"""Polynomials with whole coefficients: lists by ascending power, the last one not 0.

Where only the roots and the signs matter, a polynomial stands for all its
positive multiples; this is why no fraction is needed here.
"""

from rootcounts.rationals import common_divisor


def trimmed(coefficients):
    """Answer a new list without the zeros at the end."""
    length = len(coefficients)
    while length > 0 and coefficients[length - 1] == 0:
        length -= 1
    return coefficients[:length]


def primitive_part(polynomial):
    """Answer the polynomial divided by the positive common divisor of its coefficients."""
    divisor = 0
    for coefficient in polynomial:
        divisor = common_divisor(divisor, coefficient)
    return [coefficient // divisor for coefficient in polynomial]


def with_positive_lead(polynomial):
    """Answer the polynomial, or its negative, so that the last coefficient is above 0."""
    if polynomial[-1] > 0:
        return polynomial
    return [-coefficient for coefficient in polynomial]


def whole_derivative(polynomial):
    """Answer the derivative."""
    terms = [power * coefficient for power, coefficient in enumerate(polynomial)]
    return terms[1:]


def whole_product(first, second):
    """Answer the product of two nonzero polynomials."""
    product = [0] * (len(first) + len(second) - 1)
    for low, factor in enumerate(first):
        for high, coefficient in enumerate(second):
            product[low + high] += factor * coefficient
    return product


def scaled_value(polynomial, numerator, denominator):
    """Answer the value at numerator / denominator, times denominator ^ degree.

    With the denominator 0 this is the last coefficient times numerator ^ degree,
    and so has, for the numerators 1 and -1, the sign far above and far below all roots.
    """
    value = 0
    scale = 1
    for coefficient in reversed(polynomial):
        value = value * numerator + coefficient * scale
        scale *= denominator
    return value


def scaled_remainder(dividend, divisor):
    """Answer a positive multiple of the remainder of a division by a nonzero polynomial."""
    rest = list(dividend)
    lead = divisor[-1]
    while len(rest) >= len(divisor):
        shift = len(rest) - len(divisor)
        factor = rest[-1] if lead > 0 else -rest[-1]
        # a negative scale would turn the signs in a Sturm chain
        rest = [abs(lead) * coefficient for coefficient in rest]
        for place, coefficient in enumerate(divisor):
            rest[shift + place] -= factor * coefficient
        rest = trimmed(rest)
    # without this the coefficients would grow beyond need from step to step
    return primitive_part(rest)


def common_factor(first, second):
    """Answer a primitive greatest common divisor; the first has to be nonzero."""
    while second:
        rest = scaled_remainder(first, second)
        first = second
        second = rest
    return primitive_part(first)


def exact_quotient(dividend, divisor):
    """Answer the quotient by a primitive polynomial that divides without remainder."""
    rest = list(dividend)
    top = len(divisor) - 1
    quotient = [0] * (len(dividend) - top)
    for shift in range(len(quotient) - 1, -1, -1):
        factor = rest[shift + top] // divisor[top]
        quotient[shift] = factor
        for place, coefficient in enumerate(divisor):
            rest[shift + place] -= factor * coefficient
    return quotient


def squarefree_part(polynomial):
    """Answer a polynomial that has the same complex roots, each with multiplicity 1."""
    return exact_quotient(polynomial, common_factor(polynomial, whole_derivative(polynomial)))
