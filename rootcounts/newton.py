"""Newton's inequalities between the coefficients of a polynomial."""


def newton_holds(polynomial, k):
    """Answer whether Newton's inequality holds at index k."""
    degree = len(polynomial) - 1
    left = polynomial[k - 1] * polynomial[k + 1] * (k + 1) * (degree - k + 1)
    right = polynomial[k] * polynomial[k] * k * (degree - k)
    return left <= right


def violated_index(polynomial):
    """Answer the first index at which Newton's inequality doesn't hold, 0 if there is none.

    Both sides are of the second order in the coefficients, so that whole
    multiples of a polynomial may stand for it.
    """
    for k in range(1, len(polynomial) - 1):
        if not newton_holds(polynomial, k):
            return k
    return 0
