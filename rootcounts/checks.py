"""The ranges that the calls check."""

from rootcounts.errors import NoSuchSlot, OutOfRange, TooLarge

SLOT_COUNT = 4
MOST_COEFFICIENTS = 9
GREATEST_NUMERATOR = 1000000
GREATEST_DENOMINATOR = 1000
GREATEST_BITS = 30
GREATEST_POWER = 12


def check_slot(slot):
    """Refuse a number that no slot has."""
    if slot < 0 or slot >= SLOT_COUNT:
        raise NoSuchSlot()


def check_numerator(numerator):
    """Refuse a numerator of a coefficient or an argument that is too large."""
    if abs(numerator) > GREATEST_NUMERATOR:
        raise OutOfRange()


def check_denominator(denominator):
    """Refuse a denominator that isn't 1 to 1000."""
    if denominator < 1 or denominator > GREATEST_DENOMINATOR:
        raise OutOfRange()


def check_argument(numerator, denominator):
    """Refuse an argument that is outside its range."""
    check_numerator(numerator)
    check_denominator(denominator)


def check_coefficients(denominator, coefficients):
    """Refuse what set_polynomial can't store."""
    # zeros at the end count here: the range is that of the list handed in
    if len(coefficients) > MOST_COEFFICIENTS:
        raise OutOfRange()
    check_denominator(denominator)
    for numerator in coefficients:
        check_numerator(numerator)


def check_interval(low_numerator, low_denominator, high_numerator, high_denominator):
    """Refuse ends that are outside their range or leave no interval between them."""
    check_argument(low_numerator, low_denominator)
    check_argument(high_numerator, high_denominator)
    if high_numerator * low_denominator <= low_numerator * high_denominator:
        raise OutOfRange()


def check_bits(bits):
    """Refuse a scale of roots that is too large."""
    if bits > GREATEST_BITS:
        raise OutOfRange()


def check_max_power(max_power):
    """Refuse a power of power sums that is too large."""
    if max_power > GREATEST_POWER:
        raise OutOfRange()


def check_result(polynomial):
    """Refuse a polynomial that is too large to be stored."""
    limit = 10 ** 30
    if len(polynomial) > MOST_COEFFICIENTS:
        raise TooLarge()
    for numerator, denominator in polynomial:
        if abs(numerator) > limit or denominator > limit:
            raise TooLarge()
