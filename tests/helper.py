"""What the tests share: calls written by name, and polynomials whose roots are known."""

import unittest
from fractions import Fraction
from math import lcm

from rootcounts.polynomials import answers

NUMBERS = {
    "create": 0,
    "set_polynomial": 1,
    "get_polynomial": 2,
    "degree": 3,
    "evaluate": 4,
    "count_distinct_roots": 5,
    "count_roots": 6,
    "is_real_rooted": 7,
    "count_roots_between": 8,
    "count_roots_up_to": 9,
    "multiplicity": 10,
    "root_floor": 11,
    "root_bound": 12,
    "squarefree": 13,
    "gcd": 14,
    "derivative": 15,
    "multiply": 16,
    "power_sums": 17,
    "hermite_inertia": 18,
    "first_newton_violation": 19,
    "largest_roots": 20,
    "summary": 21,
}

MOST_CALLS = 200


def encoded(calls):
    """The flat list for calls such as ("set_polynomial", 0, 1, [-2, 0, 1])."""
    flat = []
    for name, *arguments in calls:
        flat.append(NUMBERS[name])
        for argument in arguments:
            if isinstance(argument, list):
                flat.append(len(argument))
                flat.extend(argument)
            else:
                flat.append(argument)
    return flat


def decoded(reply):
    """The answers of the single calls, each a list of numbers."""
    if type(reply) is not list:
        raise AssertionError(f"not a list: {reply!r}")
    if any(type(number) is not int for number in reply):
        raise AssertionError(f"not whole numbers alone: {reply!r}")
    found = []
    place = 0
    while place < len(reply):
        count = reply[place]
        numbers = reply[place + 1:place + 1 + count]
        if count < 1 or len(numbers) != count:
            raise AssertionError(f"a wrong count at place {place}: {reply!r}")
        found.append(numbers)
        place += 1 + count
    return found


def run(*calls):
    """The answers of a list of calls on one new instance."""
    return decoded(answers(encoded(calls)))


def ask(polynomial, *questions):
    """The answers of calls that come behind the setting of slot 0 to a list of rationals."""
    found = []
    setting = [("create",), setting_call(0, polynomial)]
    step = MOST_CALLS - len(setting)
    for start in range(0, len(questions), step):
        found.extend(run(*setting, *questions[start:start + step])[len(setting):])
    return found


def setting_call(slot, polynomial):
    """The call that sets a slot to a list of rationals."""
    rationals = [Fraction(coefficient) for coefficient in polynomial]
    common = lcm(*[rational.denominator for rational in rationals])
    return ("set_polynomial", slot, common, [int(rational * common) for rational in rationals])


def fits(polynomial):
    """Whether set_polynomial takes it."""
    name, slot, common, numerators = setting_call(0, polynomial)
    return common <= 1000 and len(numerators) <= 9 and all(abs(number) <= 1000000 for number in numerators)


def shown(polynomial):
    """How a polynomial has to be answered."""
    numbers = [len(polynomial)]
    for coefficient in polynomial:
        rational = Fraction(coefficient)
        numbers += [rational.numerator, rational.denominator]
    return numbers


def product(factors):
    """The product of polynomials."""
    result = [Fraction(1)]
    for factor in factors:
        terms = [Fraction(0)] * (len(result) + len(factor) - 1)
        for low, first in enumerate(result):
            for high, second in enumerate(factor):
                terms[low + high] += first * second
        result = terms
    return result


def from_roots(roots, lead=1):
    """lead times the product of x - r."""
    return product([[lead]] + [[-Fraction(root), 1] for root in roots])


def value(polynomial, point):
    """The value of a polynomial, power by power."""
    return sum((Fraction(c) * Fraction(point) ** power for power, c in enumerate(polynomial)), Fraction(0))


def between(low, high, slot=0):
    """The call count_roots_between for two rationals."""
    low = Fraction(low)
    high = Fraction(high)
    return ("count_roots_between", slot, low.numerator, low.denominator, high.numerator, high.denominator)


def at(name, point, slot=0):
    """A call that takes a slot and an argument."""
    point = Fraction(point)
    return (name, slot, point.numerator, point.denominator)


class CallTest(unittest.TestCase):
    """A test case that compares answers call by call."""

    def expect(self, *rows):
        """Run rows of a call and its answer (a number, or a list of numbers) in order."""
        replies = run(*[call for call, answer in rows])
        self.assertEqual(len(replies), len(rows))
        for (call, answer), reply in zip(rows, replies):
            with self.subTest(call=call):
                self.assertEqual(reply, answer if isinstance(answer, list) else [answer])

    def expect_of(self, polynomial, *rows):
        """The same for rows on slot 0, which is set to a list of rationals first."""
        replies = ask(polynomial, *[call for call, answer in rows])
        self.assertEqual(len(replies), len(rows))
        for (call, answer), reply in zip(rows, replies):
            with self.subTest(polynomial=[str(c) for c in polynomial], call=call):
                self.assertEqual(reply, answer if isinstance(answer, list) else [answer])
