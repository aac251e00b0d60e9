"""Counting of roots by Sturm's theorem, for nonzero polynomials with whole coefficients.

A point is a tuple, numerator and denominator. The denominator is above 0, or
it is 0 with the numerator -1 or 1: a point below or above all roots.
"""

from rootcounts.whole_polynomials import common_factor, exact_quotient, scaled_remainder, scaled_value
from rootcounts.whole_polynomials import whole_derivative


def point_below_all():
    """Answer the point that lies below all roots."""
    return (-1, 0)


def point_above_all():
    """Answer the point that lies above all roots."""
    return (1, 0)


def multiplicity_layers(polynomial):
    """Answer polynomials without multiple roots.

    Layer m, counted from 0, has just the roots with a multiplicity above m. So
    the roots of all layers together are the roots counted with multiplicity.
    """
    layers = []
    while len(polynomial) > 1:
        repeated = common_factor(polynomial, whole_derivative(polynomial))
        layers.append(exact_quotient(polynomial, repeated))
        polynomial = repeated
    return layers


def sturm_chain(polynomial):
    """Answer the Sturm chain of a polynomial without multiple roots."""
    chain = [polynomial]
    following = whole_derivative(polynomial)
    while following:
        chain.append(following)
        following = [-coefficient for coefficient in scaled_remainder(chain[-2], chain[-1])]
    return chain


def sign_changes(chain, point):
    """Answer how often the sign changes along the chain at a point, zeros left out."""
    numerator, denominator = point
    changes = 0
    last = 0
    for polynomial in chain:
        value = scaled_value(polynomial, numerator, denominator)
        if value * last < 0:
            changes += 1
        if value != 0:
            last = value
    return changes


def layer_chains(polynomial):
    """Answer the Sturm chains of the multiplicity layers, each beginning with its layer."""
    return [sturm_chain(layer) for layer in multiplicity_layers(polynomial)]


def count_on_chain(chain, low, high):
    """Answer how many roots above low and at most high the first polynomial of a chain has."""
    # a root at either end needs no care: without multiple roots, a zero left
    # out at a root gives the same number of changes as just above that root
    return sign_changes(chain, low) - sign_changes(chain, high)


def count_in_interval(polynomial, low, high):
    """Answer how many different roots have low < root <= high, and their number with multiplicity."""
    counts = [count_on_chain(chain, low, high) for chain in layer_chains(polynomial)]
    # only a nonzero constant has no layer
    distinct = counts[0] if counts else 0
    return (distinct, sum(counts))


def multiplicity_at(polynomial, numerator, denominator):
    """Answer the multiplicity of numerator / denominator as a root, 0 if it isn't one."""
    layers = multiplicity_layers(polynomial)
    return len([layer for layer in layers if scaled_value(layer, numerator, denominator) == 0])
