"""Whole lists of calls against a plain model of the document, in rationals."""

import random
import unittest
from fractions import Fraction
from math import ceil

from helper import NUMBERS, derived, divided, from_roots, greatest_common, hermite, monic, power_sums, product, run
from helper import shown, sign_changes, trimmed, value, without_multiple_roots


class Refused(Exception):
    """An error of the document."""


def layers(polynomial):
    """Polynomials without multiple roots: the first has all roots, the next ones those of multiplicity 2, 3 .."""
    found = []
    while len(polynomial) > 1:
        repeated = greatest_common(polynomial, derived(polynomial))
        found.append(divided(polynomial, repeated)[0])
        polynomial = repeated
    return found


def chain(polynomial):
    """The Sturm chain."""
    found = [polynomial, derived(polynomial)]
    while found[-1]:
        found.append([-coefficient for coefficient in divided(found[-2], found[-1])[1]])
    return found[:-1]


def changes(polynomials, point):
    """The sign changes at a rational point, or beyond all roots for the texts "low" and "high"."""
    if point == "low":
        return sign_changes([polynomial[-1] * (-1) ** (len(polynomial) - 1) for polynomial in polynomials])
    if point == "high":
        return sign_changes([polynomial[-1] for polynomial in polynomials])
    return sign_changes([value(polynomial, point) for polynomial in polynomials])


def counts(polynomial, low="low", high="high"):
    """How many roots lie above low and at most at high, layer by layer."""
    chains = [chain(layer) for layer in layers(polynomial)]
    return [changes(polynomials, low) - changes(polynomials, high) for polynomials in chains] or [0]


def root_floor(polynomial, k, bits):
    """The floor of root k with bits, by bisection."""
    chains = [chain(layer) for layer in layers(polynomial)]
    end = bound(polynomial) * 2 ** bits
    low, high = -end, end
    while high - low > 1:
        middle = (low + high) // 2
        point = Fraction(middle, 2 ** bits)
        below = sum(changes(polynomials, "low") - changes(polynomials, point) - (value(polynomials[0], point) == 0)
                    for polynomials in chains)
        low, high = (middle, high) if below <= k else (low, middle)
    return low


def bound(polynomial):
    """Cauchy's bound."""
    return 1 + ceil(max(abs(coefficient / polynomial[-1]) for coefficient in polynomial))


def newton(c):
    """The first index at which Newton's inequality doesn't hold, or 0."""
    n = len(c) - 1
    for k in range(1, n):
        if c[k - 1] * c[k + 1] * (k + 1) * (n - k + 1) > c[k] ** 2 * k * (n - k):
            return k
    return 0


class Model:
    """One instance: what each call answers, by its name."""

    def __init__(self):
        self.slots = None

    def answer(self, call):
        try:
            if call[0] != "create" and self.slots is None:
                raise Refused(-11)
            return getattr(self, call[0])(*call[1:])
        except Refused as refused:
            return [refused.args[0]]

    def need(self, condition, code):
        if not condition:
            raise Refused(code)

    def exists(self, *slots):
        self.need(all(slot <= 3 for slot in slots), -2)

    def nonzero(self, *slots):
        self.need(all(self.slots[slot] for slot in slots), -33)

    def argument(self, numerator, denominator):
        self.need(abs(numerator) <= 1000000 and 1 <= denominator <= 1000, -22)
        return Fraction(numerator, denominator)

    def store(self, target, polynomial):
        sizes = [max(abs(c.numerator), c.denominator) for c in polynomial]
        self.need(len(polynomial) <= 9 and all(size <= 10 ** 30 for size in sizes), -75)
        self.slots[target] = polynomial
        return shown(polynomial)

    def create(self):
        self.slots = [[] for slot in range(4)]
        return [0]

    def set_polynomial(self, slot, denominator, coefficients):
        self.exists(slot)
        self.need(len(coefficients) <= 9 and 1 <= denominator <= 1000, -22)
        self.need(all(abs(numerator) <= 1000000 for numerator in coefficients), -22)
        return self.store(slot, trimmed([Fraction(numerator, denominator) for numerator in coefficients]))

    def get_polynomial(self, slot):
        self.exists(slot)
        return shown(self.slots[slot])

    def degree(self, slot):
        self.exists(slot)
        self.nonzero(slot)
        return [len(self.slots[slot]) - 1]

    def evaluate(self, slot, numerator, denominator):
        self.exists(slot)
        result = value(self.slots[slot], self.argument(numerator, denominator))
        return [0, result.numerator, result.denominator]

    def count_distinct_roots(self, slot):
        self.exists(slot)
        self.nonzero(slot)
        return [counts(self.slots[slot])[0]]

    def count_roots(self, slot):
        self.exists(slot)
        self.nonzero(slot)
        return [sum(counts(self.slots[slot]))]

    def is_real_rooted(self, slot):
        return [1 if self.count_roots(slot) == self.degree(slot) else 0]

    def count_roots_between(self, slot, low_numerator, low_denominator, high_numerator, high_denominator):
        self.exists(slot)
        self.nonzero(slot)
        low = self.argument(low_numerator, low_denominator)
        high = self.argument(high_numerator, high_denominator)
        self.need(low < high, -22)
        found = counts(self.slots[slot], low, high)
        return [found[0], sum(found)]

    def count_roots_up_to(self, slot, numerator, denominator):
        self.exists(slot)
        self.nonzero(slot)
        return [sum(counts(self.slots[slot], high=self.argument(numerator, denominator)))]

    def multiplicity(self, slot, numerator, denominator):
        self.exists(slot)
        self.nonzero(slot)
        point = self.argument(numerator, denominator)
        polynomial, found = self.slots[slot], 0
        while value(polynomial, point) == 0:
            polynomial, found = divided(polynomial, [-point, Fraction(1)])[0], found + 1
        return [found]

    def root_floor(self, slot, k, bits):
        self.exists(slot)
        self.nonzero(slot)
        self.need(bits <= 30, -22)
        self.need(k < self.count_roots(slot)[0], -34)
        return [0, root_floor(self.slots[slot], k, bits)]

    def root_bound(self, slot):
        self.exists(slot)
        self.nonzero(slot)
        return [bound(self.slots[slot])]

    def squarefree(self, source, target):
        self.exists(source, target)
        self.nonzero(source)
        return self.store(target, without_multiple_roots(self.slots[source]))

    def gcd(self, first, second, target):
        self.exists(first, second, target)
        self.nonzero(first, second)
        return self.store(target, greatest_common(self.slots[first], self.slots[second]))

    def derivative(self, source, target):
        self.exists(source, target)
        return self.store(target, derived(self.slots[source]))

    def multiply(self, first, second, target):
        self.exists(first, second, target)
        factors = [self.slots[first], self.slots[second]]
        return self.store(target, product(factors) if all(factors) else [])

    def power_sums(self, slot, max_power):
        self.exists(slot)
        self.nonzero(slot)
        self.need(max_power <= 12, -22)
        return shown(power_sums(self.slots[slot], max_power))

    def hermite_inertia(self, slot):
        self.exists(slot)
        self.nonzero(slot)
        return list(hermite(self.slots[slot], [1])) if len(self.slots[slot]) > 1 else [0, 0]

    def first_newton_violation(self, slot):
        self.exists(slot)
        self.nonzero(slot)
        return [newton(self.slots[slot])]

    def largest_roots(self, bits):
        self.need(bits <= 30, -22)
        found = []
        for slot, polynomial in enumerate(self.slots):
            total = sum(counts(polynomial)) if polynomial else 0
            if total > 0:
                found += [slot, root_floor(polynomial, total - 1, bits)]
        return [len(found) // 2] + found

    def summary(self):
        return [4] + [len(polynomial) for polynomial in self.slots]


class Caller:
    """A source of calls whose numbers lie mostly within their ranges, now and then outside."""

    FACTORS = ([0, 1], [-1, 1], [1, 1], [1, 2], [-2, 3], [-2, 0, 1], [1, 0, 1], [1, 1, 1], [-2, 0, 0, 1], [1, -3, 0, 1])

    def __init__(self, seed):
        self.pool = random.Random(seed)

    def mostly(self, usual, unusual):
        return self.pool.choice(unusual) if self.pool.random() < 0.04 else self.pool.choice(usual)

    def slot(self):
        return self.mostly(range(4), (4, 5, 255, 4294967295))

    def bits(self):
        return self.mostly(range(31), (31, 32, 4294967295))

    def point(self):
        numerator = self.mostly(range(-6, 7), (-1000000, 1000000, 1000001, -1000001, 2147483647, -2147483648))
        return numerator, self.mostly((1, 1, 1, 2, 2, 3, 4), (0, 7, 1000, 1001, 4294967295))

    def polynomial(self):
        """The row of a call set_polynomial and its denominator."""
        kind = self.pool.random()
        if kind < 0.5:
            row = product([self.pool.choice(self.FACTORS) for place in range(self.pool.randint(1, 4))])[:9]
        elif kind < 0.6:
            row = from_roots([self.pool.randint(-2, 2) for place in range(self.pool.randint(0, 8))])
        elif kind < 0.8:
            row = [self.pool.randint(-3, 3) for place in range(self.pool.randint(0, 9))]
        elif kind < 0.96:
            row = [self.pool.randint(-1000000, 1000000) for place in range(self.pool.randint(1, 9))]
        else:
            row = [self.pool.choice((1000000, -1000000, 1000001)) for place in range(self.pool.randint(1, 11))]
        return self.mostly((1, 1, 1, 2, 6, 997, 1000), (0, 1001)), [int(number) for number in row]

    def call(self, name):
        if name in ("create", "summary"):
            return (name,)
        if name == "set_polynomial":
            return (name, self.slot(), *self.polynomial())
        if name in ("evaluate", "count_roots_up_to", "multiplicity"):
            return (name, self.slot(), *self.point())
        if name == "count_roots_between":
            return (name, self.slot(), *self.point(), *self.point())
        if name == "root_floor":
            return (name, self.slot(), self.mostly(range(5), (5, 6, 7, 8, 9, 4294967295)), self.bits())
        if name in ("squarefree", "derivative"):
            return (name, self.slot(), self.slot())
        if name in ("gcd", "multiply"):
            return (name, self.slot(), self.slot(), self.slot())
        if name == "power_sums":
            return (name, self.slot(), self.mostly(range(13), (13, 4294967295)))
        if name == "largest_roots":
            return (name, self.bits())
        return (name, self.slot())

    def calls(self, count):
        names = sorted(set(NUMBERS) - {"create"}) + ["set_polynomial"] * 8 + ["multiply", "gcd", "derivative"] * 2
        start = [self.call(self.pool.choice(names)) for place in range(self.pool.choice((0, 0, 0, 3)))]
        start += [("create",)] + [("set_polynomial", slot, *self.polynomial()) for slot in range(4)]
        more = [self.call(self.pool.choice(names)) for place in range(count - len(start))]
        if self.pool.random() < 0.2:
            more[self.pool.randrange(len(more))] = ("create",)
        return start + more


class SessionsTest(unittest.TestCase):
    def compare(self, calls):
        model = Model()
        for place, (call, reply) in enumerate(zip(calls, run(*calls), strict=True)):
            due = model.answer(call)
            if reply != due:
                self.fail(f"call {place}, {call}: {reply} instead of {due}, in {calls[:place]}")

    def test_short_lists(self):
        for seed in range(150):
            self.compare(Caller(seed).calls(30))

    def test_longest_lists(self):
        for seed in range(1000, 1012):
            calls = Caller(seed).calls(200)
            self.assertEqual(len(calls), 200)
            self.compare(calls)

    def test_growing_products(self):
        # multiplied on and on, until results are too large
        for seed in range(2000, 2040):
            caller = Caller(seed)
            calls = [("create",), ("set_polynomial", 0, *caller.polynomial())]
            for place in range(16):
                numerators = [caller.pool.choice((1000000, 999983, 1, -7, 1000)), caller.pool.choice((0, 0, 1, -3))]
                calls.append(("set_polynomial", 1, caller.pool.choice((1, 997, 1000)), numerators))
                calls.append(("multiply", 0, 1, 0))
            for name in ("squarefree", "derivative"):
                calls.append((name, 0, 2))
            calls += [("gcd", 0, 2, 3), ("summary",)]
            for slot in range(4):
                calls += [("count_roots", slot), ("root_bound", slot), ("hermite_inertia", slot),
                          ("first_newton_violation", slot), ("power_sums", slot, 5), ("root_floor", slot, 0, 30)]
            self.compare(calls)

    def test_the_model_knows_every_call(self):
        for name in NUMBERS:
            self.assertTrue(callable(getattr(Model, name)), name)


if __name__ == "__main__":
    unittest.main()
