"""Power sums of the complex roots of nonzero polynomials with whole coefficients."""

from rootcounts.rationals import lowest_terms
from rootcounts.whole_polynomials import with_positive_lead


def scaled_to_monic(polynomial):
    """Answer, from the highest power down, a polynomial with whole coefficients and the first one 1.

    Its roots are those of the polynomial times the last coefficient.
    """
    lead = polynomial[-1]
    scale = 1
    descending = [1]
    for coefficient in reversed(polynomial[:-1]):
        descending.append(coefficient * scale)
        scale *= lead
    return descending


def scaled_power_sums(polynomial, max_power):
    """Answer s(k) times lead ^ k for k from 0 to max_power, lead being the last coefficient."""
    descending = scaled_to_monic(polynomial)
    degree = len(descending) - 1
    sums = [degree]
    for power in range(1, max_power + 1):
        # Newton's identities, which need no division
        total = power * descending[power] if power <= degree else 0
        for place in range(1, min(power - 1, degree) + 1):
            total += descending[place] * sums[power - place]
        sums.append(-total)
    return sums


def power_sum_fractions(polynomial, max_power):
    """Answer the power sums s(0) to s(max_power) as fractions."""
    polynomial = with_positive_lead(polynomial)
    fractions = []
    scale = 1
    for total in scaled_power_sums(polynomial, max_power):
        fractions.append(lowest_terms(total, scale))
        scale *= polynomial[-1]
    return fractions
