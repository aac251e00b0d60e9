"""Where single roots lie: a bound of all roots, and floors of scaled roots.

The polynomials are nonzero and have whole coefficients.
"""

from rootcounts.sturm import count_on_chain, layer_chains, point_below_all
from rootcounts.whole_polynomials import scaled_value


def cauchy_bound(polynomial):
    """Answer 1 plus the smallest whole number that no |coefficient / last coefficient| exceeds."""
    greatest = max([abs(coefficient) for coefficient in polynomial])
    # rounding the negative down rounds up
    return 1 - (-greatest) // abs(polynomial[-1])


def count_below(chains, point):
    """Answer how many roots lie below a point, counted with multiplicity."""
    count = 0
    for chain in chains:
        numerator, denominator = point
        count += count_on_chain(chain, point_below_all(), point)
        if scaled_value(chain[0], numerator, denominator) == 0:
            count -= 1
    return count


def power_of_two(bits):
    """Answer 2 ^ bits."""
    power = 1
    for step in range(bits):
        power *= 2
    return power


def floor_of_root(polynomial, k, bits):
    """Answer the floor of root k times 2 ^ bits; there have to be more than k roots."""
    chains = layer_chains(polynomial)
    scale = power_of_two(bits)
    high = cauchy_bound(polynomial) * scale
    low = -high
    # low <= root k * scale < high all the while
    while high - low > 1:
        middle = (low + high) // 2
        if count_below(chains, (middle, scale)) <= k:
            low = middle
        else:
            high = middle
    return low
