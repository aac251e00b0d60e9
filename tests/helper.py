"""What the tests share: calls written by name, and the arithmetic that their answers are compared with."""

import unittest
from fractions import Fraction
from math import lcm

from rootcounts.polynomials import answers

NUMBERS = {
    "create": 0,
    "set_polynomial": 1,
    "get_polynomial": 2,
    "degree": 3,
    "evaluate": 4,
    "count_distinct_roots": 5,
    "count_roots": 6,
    "is_real_rooted": 7,
    "count_roots_between": 8,
    "count_roots_up_to": 9,
    "multiplicity": 10,
    "root_floor": 11,
    "root_bound": 12,
    "squarefree": 13,
    "gcd": 14,
    "derivative": 15,
    "multiply": 16,
    "power_sums": 17,
    "hermite_inertia": 18,
    "first_newton_violation": 19,
    "largest_roots": 20,
    "summary": 21,
}

MOST_CALLS = 200


def encoded(calls):
    """The flat list for calls such as ("set_polynomial", 0, 1, [-2, 0, 1])."""
    flat = []
    for name, *arguments in calls:
        flat.append(NUMBERS[name])
        for argument in arguments:
            if isinstance(argument, list):
                flat.append(len(argument))
                flat.extend(argument)
            else:
                flat.append(argument)
    return flat


def decoded(reply):
    """The answers of the single calls, each a list of numbers."""
    if type(reply) is not list:
        raise AssertionError(f"not a list: {reply!r}")
    if any(type(number) is not int for number in reply):
        raise AssertionError(f"not whole numbers alone: {reply!r}")
    found = []
    place = 0
    while place < len(reply):
        count = reply[place]
        numbers = reply[place + 1:place + 1 + count]
        if count < 1 or len(numbers) != count:
            raise AssertionError(f"a wrong count at place {place}: {reply!r}")
        found.append(numbers)
        place += 1 + count
    return found


def run(*calls):
    """The answers of a list of calls on one new instance."""
    return decoded(answers(encoded(calls)))


def ask(polynomial, *questions):
    """The answers of calls that come behind the setting of slot 0 to a list of rationals."""
    found = []
    setting = [("create",), setting_call(0, polynomial)]
    step = MOST_CALLS - len(setting)
    for start in range(0, len(questions), step):
        found.extend(run(*setting, *questions[start:start + step])[len(setting):])
    return found


def setting_call(slot, polynomial):
    """The call that sets a slot to a list of rationals."""
    rationals = [Fraction(coefficient) for coefficient in polynomial]
    common = lcm(*[rational.denominator for rational in rationals])
    return ("set_polynomial", slot, common, [int(rational * common) for rational in rationals])


def building(slot, spare, factors):
    """The calls that store the product of polynomials in a slot, with another slot for the factors."""
    if not all(fits(factor) for factor in factors):
        raise AssertionError(f"set_polynomial doesn't take one of {factors!r}")
    calls = [setting_call(slot, factors[0])]
    for factor in factors[1:]:
        calls += [setting_call(spare, factor), ("multiply", slot, spare, slot)]
    return calls


def fits(polynomial):
    """Whether set_polynomial takes it."""
    name, slot, common, numerators = setting_call(0, polynomial)
    return common <= 1000 and len(numerators) <= 9 and all(abs(number) <= 1000000 for number in numerators)


def shown(polynomial):
    """How a polynomial has to be answered."""
    numbers = [len(polynomial)]
    for coefficient in polynomial:
        rational = Fraction(coefficient)
        numbers += [rational.numerator, rational.denominator]
    return numbers


def product(factors):
    """The product of polynomials."""
    result = [Fraction(1)]
    for factor in factors:
        terms = [Fraction(0)] * (len(result) + len(factor) - 1)
        for low, first in enumerate(result):
            for high, second in enumerate(factor):
                terms[low + high] += first * second
        result = terms
    return result


def from_roots(roots, lead=1):
    """lead times the product of x - r."""
    return product([[lead]] + [[-Fraction(root), 1] for root in roots])


def value(polynomial, point):
    """The value of a polynomial, power by power."""
    return sum((Fraction(c) * Fraction(point) ** power for power, c in enumerate(polynomial)), Fraction(0))


def trimmed(polynomial):
    """The polynomial as a list of rationals, without zeros at the end."""
    result = [Fraction(coefficient) for coefficient in polynomial]
    while result and result[-1] == 0:
        result.pop()
    return result


def derived(polynomial):
    """The derivative."""
    return trimmed([power * Fraction(c) for power, c in enumerate(polynomial)][1:])


def divided(dividend, divisor):
    """The quotient and the remainder of two polynomials."""
    rest = trimmed(dividend)
    quotient = [Fraction(0)] * max(0, len(rest) - len(divisor) + 1)
    while len(rest) >= len(divisor):
        shift = len(rest) - len(divisor)
        quotient[shift] = rest[-1] / divisor[-1]
        for place, coefficient in enumerate(divisor):
            rest[shift + place] -= quotient[shift] * coefficient
        rest = trimmed(rest)
    return quotient, rest


def monic(polynomial):
    """The multiple with the last coefficient 1."""
    return [Fraction(coefficient) / polynomial[-1] for coefficient in polynomial]


def greatest_common(first, second):
    """The monic greatest common divisor of two polynomials that aren't both zero."""
    first, second = trimmed(first), trimmed(second)
    while second:
        first, second = second, divided(first, second)[1]
    return monic(first)


def without_multiple_roots(polynomial):
    """The monic polynomial with the same complex roots, each once."""
    return monic(divided(polynomial, greatest_common(polynomial, derived(polynomial)))[0])


def between(low, high, slot=0):
    """The call count_roots_between for two rationals."""
    low = Fraction(low)
    high = Fraction(high)
    return ("count_roots_between", slot, low.numerator, low.denominator, high.numerator, high.denominator)


def at(name, point, slot=0):
    """A call that takes a slot and an argument."""
    point = Fraction(point)
    return (name, slot, point.numerator, point.denominator)


def power_sums(polynomial, most):
    """The power sums s(0) to s(most) of all complex roots: the traces of x^k modulo the polynomial."""
    degree = len(polynomial) - 1
    rests = [divided([0] * power + [1], polynomial)[1] + [Fraction(0)] * degree for power in range(most + degree)]
    return [sum((rests[k + place][place] for place in range(degree)), Fraction(0)) for k in range(most + 1)]


def characteristic(matrix):
    """The coefficients of the characteristic polynomial, from the highest power."""
    size = len(matrix)
    coefficients = [Fraction(1)]
    current = [[Fraction(0)] * size for row in range(size)]
    for step in range(1, size + 1):
        for row in range(size):
            current[row][row] += coefficients[-1]
        current = [[sum(matrix[row][k] * current[k][column] for k in range(size)) for column in range(size)]
                   for row in range(size)]
        coefficients.append(-sum(current[row][row] for row in range(size)) / step)
    return coefficients


def sign_changes(numbers):
    """How often the sign changes, zeros left out."""
    signs = [number > 0 for number in numbers if number != 0]
    return len([None for first, second in zip(signs, signs[1:]) if first != second])


def inertia(matrix):
    """How many positive and negative eigenvalues a symmetric matrix has, by Descartes' rule."""
    coefficients = characteristic(matrix)
    turned = [-number if place % 2 else number for place, number in enumerate(coefficients)]
    return sign_changes(coefficients), sign_changes(turned)


def hermite(polynomial, weight):
    """The inertia of Hermite's form with a polynomial weight of degree 0 or 1."""
    degree = len(polynomial) - 1
    sums = power_sums(polynomial, 2 * degree)
    entries = [sum(Fraction(w) * sums[k + power] for power, w in enumerate(weight)) for k in range(2 * degree - 1)]
    return inertia([[entries[row + column] for column in range(degree)] for row in range(degree)])


class CallTest(unittest.TestCase):
    """A test case that compares answers call by call."""

    def expect(self, *rows):
        """Run rows of a call and its answer (a number, or a list of numbers) in order."""
        replies = run(*[call for call, answer in rows])
        self.assertEqual(len(replies), len(rows))
        for (call, answer), reply in zip(rows, replies):
            with self.subTest(call=call):
                self.assertEqual(reply, answer if isinstance(answer, list) else [answer])

    def expect_of(self, polynomial, *rows):
        """The same for rows on slot 0, which is set to a list of rationals first."""
        replies = ask(polynomial, *[call for call, answer in rows])
        self.assertEqual(len(replies), len(rows))
        for (call, answer), reply in zip(rows, replies):
            with self.subTest(polynomial=[str(c) for c in polynomial], call=call):
                self.assertEqual(reply, answer if isinstance(answer, list) else [answer])
