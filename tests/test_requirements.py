"""The document's requirements 1 to 5, and the counts once more by another theorem."""

import itertools
import random
import unittest
from fractions import Fraction

from helper import CallTest, ask, at, between, fits, from_roots, hermite, product, run, setting_call, value


class ProductsTest(CallTest):
    """Requirement 1."""

    ROOTS = (Fraction(-3, 2), Fraction(0), Fraction(1, 3), Fraction(2))
    POINTS = sorted(ROOTS + (Fraction(-2), Fraction(-1), Fraction(1, 6), Fraction(1), Fraction(3)))

    def expect_roots(self, polynomial, roots, points):
        rows = [
            (("degree", 0), len(roots)),
            (("count_distinct_roots", 0), len(set(roots))),
            (("count_roots", 0), len(roots)),
            (("is_real_rooted", 0), 1),
        ]
        for point in points:
            rows.append((at("multiplicity", point), roots.count(point)))
            rows.append((at("count_roots_up_to", point), len([root for root in roots if root <= point])))
        for low, high in itertools.combinations(points, 2):
            inside = [root for root in roots if low < root <= high]
            rows.append((between(low, high), [len(set(inside)), len(inside)]))
        self.expect_of(polynomial, *rows)

    def test_products_of_few_roots(self):
        for count in range(9):
            for roots in itertools.combinations_with_replacement(self.ROOTS, count):
                scale = 2 ** roots.count(self.ROOTS[0]) * 3 ** roots.count(self.ROOTS[2])
                lead = scale if count % 2 else -scale
                self.expect_roots(from_roots(roots, lead), roots, self.POINTS)

    def test_monic_products(self):
        pool = random.Random(20)
        for count in range(9):
            for times in range(4):
                roots = [Fraction(pool.randint(-6, 6), pool.choice((1, 1, 1, 2))) for place in range(count)]
                points = sorted(set(roots) | {Fraction(-7), Fraction(7), Fraction(1, 4), Fraction(-11, 3)})
                polynomial = from_roots(roots)
                self.assertTrue(fits(polynomial), roots)
                self.expect_roots(polynomial, roots, points)


class SturmTest(CallTest):
    """Requirement 2."""

    POINTS = [Fraction(number, 2) for number in range(-5, 6)]

    def check(self, polynomial):
        questions = [at("evaluate", point) for point in self.POINTS]
        pairs = list(itertools.combinations(range(len(self.POINTS)), 2))
        questions += [between(self.POINTS[low], self.POINTS[high]) for low, high in pairs]
        replies = ask(polynomial, *questions)
        values = [Fraction(numerator, denominator) for code, numerator, denominator in replies[:len(self.POINTS)]]
        self.assertEqual(values, [value(polynomial, point) for point in self.POINTS])
        for (low, high), (distinct, total) in zip(pairs, replies[len(self.POINTS):]):
            self.assertLessEqual(distinct, total)
            if values[low] * values[high] < 0:
                self.assertGreaterEqual(distinct, 1, (polynomial, low, high))
            if distinct == 0:
                self.assertEqual(total, 0, (polynomial, low, high))
                signs = {(number > 0) - (number < 0) for number in values[low + 1:high]}
                self.assertLessEqual(len(signs), 1, (polynomial, low, high))

    def test_small_coefficients(self):
        for coefficients in itertools.product((-1, 0, 1), repeat=5):
            if any(coefficients):
                self.check(coefficients)

    def test_larger_degrees(self):
        pool = random.Random(2)
        for degree in range(1, 9):
            for times in range(8):
                self.check([Fraction(pool.randint(-30, 30), 6) for power in range(degree)] + [pool.choice((-1, 1))])


def many_polynomials(seed, count):
    """Polynomials of every degree up to 8: random ones, and products with multiple roots."""
    pool = random.Random(seed)
    factors = ([0, 1], [-1, 1], [1, 2], [-2, 3], [-2, 0, 1], [1, 0, 1], [1, 1, 1], [-2, 0, 0, 1], [1, -3, 0, 1])
    found = []
    for degree in range(9):
        for times in range(count):
            found.append([pool.randint(-5, 5) for power in range(degree)] + [pool.choice((-7, -1, 1, 2))])
            found.append([pool.randint(-1000000, 1000000) for power in range(degree + 1)])
    for times in range(6 * count):
        polynomial = product([pool.choice(factors) for place in range(pool.randint(1, 4))])
        if fits(polynomial):
            found.append([pool.choice((1, -1, 3)) * coefficient for coefficient in polynomial])
    return [polynomial for polynomial in found if len(polynomial) <= 9 and fits(polynomial)]


class HermiteTest(CallTest):
    """Requirement 3."""

    def check(self, polynomial):
        inertia, distinct, roots, rooted = ask(polynomial, ("hermite_inertia", 0), ("count_distinct_roots", 0),
                                               ("count_roots", 0), ("is_real_rooted", 0))
        positive, negative = inertia
        self.assertEqual([positive - negative], distinct, polynomial)
        self.assertGreaterEqual(negative, 0, polynomial)
        self.assertLessEqual(positive + negative, len(polynomial) - 1, polynomial)
        if rooted == [1]:
            self.assertEqual(negative, 0, polynomial)

    def test_small_coefficients(self):
        for degree in range(1, 6):
            for polynomial in itertools.product((-1, 0, 1), repeat=degree):
                self.check(polynomial + (1,))

    def test_many(self):
        for polynomial in many_polynomials(3, 12):
            self.check(polynomial)


class RealRootedTest(CallTest):
    """Requirement 4."""

    def check(self, polynomial):
        """The derivatives are gone down to zero."""
        calls = [("create",), setting_call(0, polynomial)]
        for times in range(len(polynomial)):
            calls += [("is_real_rooted", 0), ("first_newton_violation", 0), ("derivative", 0, 0)]
        replies = run(*calls)[2:]
        for place in range(0, len(replies), 3):
            self.assertEqual(replies[place:place + 2], [[1], [0]], (polynomial, place // 3))
        self.assertEqual(replies[-1], [0], polynomial)

    def test_products_of_rational_roots(self):
        pool = random.Random(4)
        for degree in range(9):
            for times in range(12):
                roots = [pool.choice((0, 1, -1, 2, -3, Fraction(1, 2), Fraction(-1, 2))) for place in range(degree)]
                self.check(from_roots(roots, pool.choice((1, -1)) * 2 ** degree))

    def test_products_of_other_roots(self):
        # each of these has real roots alone
        factors = ([-2, 0, 1], [-1, -1, 1], [1, -3, 0, 1], [1, 0, -10, 0, 1], [0, 1], [-3, 2])
        for chosen in itertools.combinations_with_replacement(factors, 3):
            polynomial = product(chosen)
            if len(polynomial) <= 9:
                self.check(polynomial)
                self.check([-coefficient for coefficient in polynomial])

    def test_constants(self):
        for constant in (1, -1, 1000000, Fraction(-1, 1000)):
            self.check([constant])

    def test_whatever_is_real_rooted(self):
        found = 0
        for polynomial in many_polynomials(5, 12):
            if ask(polynomial, ("is_real_rooted", 0)) == [[1]]:
                found += 1
                self.check(polynomial)
        self.assertGreater(found, 20)

    def test_a_violation_shows_that_not_all_roots_are_real(self):
        found = 0
        for polynomial in many_polynomials(6, 12):
            violation, rooted = ask(polynomial, ("first_newton_violation", 0), ("is_real_rooted", 0))
            if violation != [0]:
                found += 1
                self.assertEqual(rooted, [0], polynomial)
        self.assertGreater(found, 20)


class RootFloorTest(CallTest):
    """Requirement 5."""

    BITS = range(31)

    def floors(self, polynomial):
        """For each number of bits the floors of all roots."""
        count = ask(polynomial, ("count_roots", 0))[0][0]
        questions = [("root_floor", 0, k, bits) for bits in self.BITS for k in range(count)]
        replies = ask(polynomial, *questions)
        self.assertEqual([reply[0] for reply in replies], [0] * len(questions))
        return [[reply[1] for reply in replies[bits * count:(bits + 1) * count]] for bits in self.BITS]

    def counts_up_to(self, polynomial, points):
        """The answers of count_roots_up_to by point, of those points that it takes."""
        taken = sorted({Fraction(point) for point in points})
        taken = [point for point in taken if abs(point.numerator) <= 1000000 and point.denominator <= 1000]
        replies = ask(polynomial, *[at("count_roots_up_to", point) for point in taken])
        return {point: reply[0] for point, reply in zip(taken, replies)}

    def points_around(self, number, bits):
        """Points at and near to number / 2 ^ bits, whose denominators are small enough."""
        point = Fraction(number, 2 ** bits)
        points = [point, point + Fraction(1, 2 ** bits)]
        return points + [near.limit_denominator(limit) for near in points for limit in (1, 10, 1000)]

    def check(self, polynomial):
        by_bits = self.floors(polynomial)
        points = []
        for bits, floors in enumerate(by_bits):
            self.assertEqual(floors, sorted(floors), (polynomial, bits))
            for number in floors:
                points += self.points_around(number, bits)
        counts = self.counts_up_to(polynomial, points)
        for bits, floors in enumerate(by_bits):
            for point, count in counts.items():
                # the root lies in [floor / 2^bits, (floor + 1) / 2^bits)
                scaled = point * 2 ** bits
                surely = len([number for number in floors if number + 1 <= scaled])
                perhaps = len([number for number in floors if number <= scaled])
                self.assertLessEqual(surely, count, (polynomial, bits, point))
                self.assertGreaterEqual(perhaps, count, (polynomial, bits, point))
            for number, finest in zip(floors, by_bits[-1]):
                self.assertEqual(number, finest >> (30 - bits), (polynomial, bits))

    def test_many(self):
        for polynomial in many_polynomials(7, 3):
            self.check(polynomial)

    def test_rational_roots(self):
        for roots in ([0], [1, 2, 3], [-1, Fraction(-1, 2), Fraction(1, 4)], [Fraction(1, 3), Fraction(-1, 3)],
                      [Fraction(-7, 8)] * 2, [Fraction(5, 512), Fraction(-5, 512)], [Fraction(999, 1000)], [0, 0, -2]):
            scale = 1
            for root in roots:
                scale *= Fraction(root).denominator
            self.check(from_roots(roots, scale))

    def test_sign_of_the_value(self):
        # the value changes its sign between both ends, for roots that lie alone and aren't dyadic
        for polynomial in ([-2, 0, 1], [1, -3, 0, 1], [1, 0, -10, 0, 1], [-1, -1, 0, 0, 0, 1], [-999983, 0, 0, 7]):
            for bits, floors in enumerate(self.floors(polynomial)):
                for number in floors:
                    if floors.count(number) == 1:
                        low = value(polynomial, Fraction(number, 2 ** bits))
                        high = value(polynomial, Fraction(number + 1, 2 ** bits))
                        self.assertLess(low * high, 0, (polynomial, bits, number))


class SecondMethodTest(CallTest):
    """Roots counted by Hermite's theorem, which uses no Sturm chain."""

    POINTS = [Fraction(point) for point in ("-3", "-1", "-1/2", "0", "1/3", "1", "2")]

    def check(self, polynomial):
        positive, negative = hermite(polynomial, [1])
        distinct = positive - negative
        rows = [(("count_distinct_roots", 0), distinct)]
        if positive + negative == len(polynomial) - 1:
            rows.append((("count_roots", 0), distinct))
            rows.append((("is_real_rooted", 0), 1 if negative == 0 else 0))
        up_to = {}
        for point in self.POINTS:
            # the weight x - point gives the roots above the point less those below it
            above, below = hermite(polynomial, [-point, 1])
            root = 1 if value(polynomial, point) == 0 else 0
            up_to[point] = (distinct + root - above + below) // 2
        self.expect_of(polynomial, *rows)
        pairs = list(itertools.combinations(self.POINTS, 2))
        replies = ask(polynomial, *[between(low, high) for low, high in pairs])
        for (low, high), (found, total) in zip(pairs, replies):
            self.assertEqual(found, up_to[high] - up_to[low], (polynomial, low, high))
            if positive + negative == len(polynomial) - 1:
                self.assertEqual(total, found, (polynomial, low, high))

    def test_small_coefficients(self):
        pool = random.Random(8)
        for degree in range(1, 9):
            for times in range(10):
                self.check([pool.randint(-3, 3) for power in range(degree)] + [pool.choice((-2, -1, 1, 3))])

    def test_large_coefficients(self):
        pool = random.Random(9)
        for degree in range(1, 9):
            for times in range(3):
                self.check([Fraction(pool.randint(-1000000, 1000000), 997) for power in range(degree + 1)])

    def test_multiple_roots(self):
        pool = random.Random(10)
        for times in range(20):
            roots = [pool.choice(self.POINTS[3:]) for place in range(pool.randint(1, 6))]
            self.check(from_roots(roots))


if __name__ == "__main__":
    unittest.main()
