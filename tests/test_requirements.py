"""The document's requirements 1 and 2, and the counts once more by another theorem."""

import itertools
import random
import unittest
from fractions import Fraction

from helper import CallTest, ask, at, between, fits, from_roots, value


class ProductsTest(CallTest):
    """Requirement 1."""

    ROOTS = (Fraction(-3, 2), Fraction(0), Fraction(1, 3), Fraction(2))
    POINTS = sorted(ROOTS + (Fraction(-2), Fraction(-1), Fraction(1, 6), Fraction(1), Fraction(3)))

    def expect_roots(self, polynomial, roots, points):
        rows = [
            (("degree", 0), len(roots)),
            (("count_distinct_roots", 0), len(set(roots))),
            (("count_roots", 0), len(roots)),
            (("is_real_rooted", 0), 1),
        ]
        for point in points:
            rows.append((at("multiplicity", point), roots.count(point)))
            rows.append((at("count_roots_up_to", point), len([root for root in roots if root <= point])))
        for low, high in itertools.combinations(points, 2):
            inside = [root for root in roots if low < root <= high]
            rows.append((between(low, high), [len(set(inside)), len(inside)]))
        self.expect_of(polynomial, *rows)

    def test_products_of_few_roots(self):
        for count in range(9):
            for roots in itertools.combinations_with_replacement(self.ROOTS, count):
                scale = 2 ** roots.count(self.ROOTS[0]) * 3 ** roots.count(self.ROOTS[2])
                lead = scale if count % 2 else -scale
                self.expect_roots(from_roots(roots, lead), roots, self.POINTS)

    def test_monic_products(self):
        pool = random.Random(20)
        for count in range(9):
            for times in range(4):
                roots = [Fraction(pool.randint(-6, 6), pool.choice((1, 1, 1, 2))) for place in range(count)]
                points = sorted(set(roots) | {Fraction(-7), Fraction(7), Fraction(1, 4), Fraction(-11, 3)})
                polynomial = from_roots(roots)
                self.assertTrue(fits(polynomial), roots)
                self.expect_roots(polynomial, roots, points)


class SturmTest(CallTest):
    """Requirement 2."""

    POINTS = [Fraction(number, 2) for number in range(-5, 6)]

    def check(self, polynomial):
        questions = [at("evaluate", point) for point in self.POINTS]
        pairs = list(itertools.combinations(range(len(self.POINTS)), 2))
        questions += [between(self.POINTS[low], self.POINTS[high]) for low, high in pairs]
        replies = ask(polynomial, *questions)
        values = [Fraction(numerator, denominator) for code, numerator, denominator in replies[:len(self.POINTS)]]
        self.assertEqual(values, [value(polynomial, point) for point in self.POINTS])
        for (low, high), (distinct, total) in zip(pairs, replies[len(self.POINTS):]):
            self.assertLessEqual(distinct, total)
            if values[low] * values[high] < 0:
                self.assertGreaterEqual(distinct, 1, (polynomial, low, high))
            if distinct == 0:
                self.assertEqual(total, 0, (polynomial, low, high))
                signs = {(number > 0) - (number < 0) for number in values[low + 1:high]}
                self.assertLessEqual(len(signs), 1, (polynomial, low, high))

    def test_small_coefficients(self):
        for coefficients in itertools.product((-1, 0, 1), repeat=5):
            if any(coefficients):
                self.check(coefficients)

    def test_larger_degrees(self):
        pool = random.Random(2)
        for degree in range(1, 9):
            for times in range(8):
                self.check([Fraction(pool.randint(-30, 30), 6) for power in range(degree)] + [pool.choice((-1, 1))])


def power_sums(polynomial, most):
    """The power sums of all complex roots, by Newton's identities."""
    lead = Fraction(polynomial[-1])
    monic = [coefficient / lead for coefficient in reversed(polynomial)]
    degree = len(polynomial) - 1
    sums = [Fraction(degree)]
    for k in range(1, most + 1):
        total = -k * monic[k] if k <= degree else Fraction(0)
        for place in range(1, min(k, degree + 1)):
            total -= monic[place] * sums[k - place]
        sums.append(total)
    return sums


def characteristic(matrix):
    """The coefficients of the characteristic polynomial, from the highest power."""
    size = len(matrix)
    coefficients = [Fraction(1)]
    current = [[Fraction(0)] * size for row in range(size)]
    for step in range(1, size + 1):
        for row in range(size):
            current[row][row] += coefficients[-1]
        current = [[sum(matrix[row][k] * current[k][column] for k in range(size)) for column in range(size)]
                   for row in range(size)]
        coefficients.append(-sum(current[row][row] for row in range(size)) / step)
    return coefficients


def sign_changes(numbers):
    """How often the sign changes, zeros left out."""
    signs = [number > 0 for number in numbers if number != 0]
    return len([None for first, second in zip(signs, signs[1:]) if first != second])


def inertia(matrix):
    """How many positive and negative eigenvalues a symmetric matrix has, by Descartes' rule."""
    coefficients = characteristic(matrix)
    turned = [-number if place % 2 else number for place, number in enumerate(coefficients)]
    return sign_changes(coefficients), sign_changes(turned)


def hermite(polynomial, weight):
    """The inertia of Hermite's form with a polynomial weight of degree 0 or 1."""
    degree = len(polynomial) - 1
    sums = power_sums(polynomial, 2 * degree)
    entries = [sum(Fraction(w) * sums[k + power] for power, w in enumerate(weight)) for k in range(2 * degree - 1)]
    return inertia([[entries[row + column] for column in range(degree)] for row in range(degree)])


class SecondMethodTest(CallTest):
    """Roots counted by Hermite's theorem, which uses no Sturm chain."""

    POINTS = [Fraction(point) for point in ("-3", "-1", "-1/2", "0", "1/3", "1", "2")]

    def check(self, polynomial):
        positive, negative = hermite(polynomial, [1])
        distinct = positive - negative
        rows = [(("count_distinct_roots", 0), distinct)]
        if positive + negative == len(polynomial) - 1:
            rows.append((("count_roots", 0), distinct))
            rows.append((("is_real_rooted", 0), 1 if negative == 0 else 0))
        up_to = {}
        for point in self.POINTS:
            # the weight x - point gives the roots above the point less those below it
            above, below = hermite(polynomial, [-point, 1])
            root = 1 if value(polynomial, point) == 0 else 0
            up_to[point] = (distinct + root - above + below) // 2
        self.expect_of(polynomial, *rows)
        pairs = list(itertools.combinations(self.POINTS, 2))
        replies = ask(polynomial, *[between(low, high) for low, high in pairs])
        for (low, high), (found, total) in zip(pairs, replies):
            self.assertEqual(found, up_to[high] - up_to[low], (polynomial, low, high))
            if positive + negative == len(polynomial) - 1:
                self.assertEqual(total, found, (polynomial, low, high))

    def test_small_coefficients(self):
        pool = random.Random(8)
        for degree in range(1, 9):
            for times in range(10):
                self.check([pool.randint(-3, 3) for power in range(degree)] + [pool.choice((-2, -1, 1, 3))])

    def test_large_coefficients(self):
        pool = random.Random(9)
        for degree in range(1, 9):
            for times in range(3):
                self.check([Fraction(pool.randint(-1000000, 1000000), 997) for power in range(degree + 1)])

    def test_multiple_roots(self):
        pool = random.Random(10)
        for times in range(20):
            roots = [pool.choice(self.POINTS[3:]) for place in range(pool.randint(1, 6))]
            self.check(from_roots(roots))


if __name__ == "__main__":
    unittest.main()
