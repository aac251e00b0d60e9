"""power_sums, hermite_inertia and first_newton_violation."""

import itertools
import random
import unittest
from fractions import Fraction

from helper import CallTest, building, from_roots, hermite, power_sums, product, run, shown, without_multiple_roots


def large_polynomials():
    """Polynomials of degree 7 and 8 whose coefficients are as large as set_polynomial takes them."""
    pool = random.Random(41)
    found = [[1000000] * 9, [-1000000] * 9, [1000000, -1000000] * 4, [999983 - power for power in range(9)]]
    for times in range(8):
        found.append([pool.randint(-1000000, 1000000) for power in range(7 + times % 2)] + [pool.choice((-997, 991))])
    return found


class PowerSumsTest(CallTest):
    def expect_sums(self, polynomial, sums):
        """All power sums up to s(12); a shorter list is its beginning."""
        rows = [(("power_sums", 0, most), shown(sums[:most + 1])) for most in range(13)]
        self.expect_of(polynomial, *rows, (("power_sums", 0, 13), -22))

    def expect_roots(self, roots, lead=1):
        sums = [sum(Fraction(root) ** power for root in roots) for power in range(13)]
        self.expect_sums(from_roots(roots, lead), sums)

    def test_written_out(self):
        self.expect_of(
            [-2, 0, 1],
            (("power_sums", 0, 0), [1, 2, 1]),
            (("power_sums", 0, 1), [2, 2, 1, 0, 1]),
            (("power_sums", 0, 2), [3, 2, 1, 0, 1, 4, 1]),
            (("power_sums", 0, 4), [5, 2, 1, 0, 1, 4, 1, 0, 1, 8, 1]),
        )
        self.expect_of(
            [1, 0, 1],
            (("power_sums", 0, 6), [7, 2, 1, 0, 1, -2, 1, 0, 1, 2, 1, 0, 1, -2, 1]),
        )
        self.expect_of([1, 2], (("power_sums", 0, 3), [4, 1, 1, -1, 2, 1, 4, -1, 8]))
        self.expect_of([1, -2], (("power_sums", 0, 3), [4, 1, 1, 1, 2, 1, 4, 1, 8]))
        self.expect_of([-1, -2], (("power_sums", 0, 3), [4, 1, 1, -1, 2, 1, 4, -1, 8]))
        self.expect_of([1, 0, 0, 2], (("power_sums", 0, 6), [7, 3, 1, 0, 1, 0, 1, -3, 2, 0, 1, 0, 1, 3, 4]))

    def test_constants(self):
        for constant in (1, -1, 1000000, Fraction(-2, 3)):
            self.expect_sums([constant], [0] * 13)

    def test_roots_at_0(self):
        for degree in range(1, 9):
            self.expect_sums([0] * degree + [-3], [degree] + [0] * 12)
            self.expect_sums([0] * (degree - 1) + [-1, 3], [degree] + [Fraction(1, 3 ** k) for k in range(1, 13)])

    def test_rational_roots(self):
        self.expect_roots([1, 2, 3, 4, 5, 6, 7, 8])
        self.expect_roots([-1, 1, -2, 2], -7)
        self.expect_roots([Fraction(1, 2), Fraction(-1, 3)], 6)
        self.expect_roots([Fraction(1, 2), Fraction(1, 2), Fraction(-2, 3), 5], -36)
        self.expect_roots([Fraction(-1000000, 999)], 999)
        self.expect_roots([Fraction(999, 1000000)], -1000000)
        self.expect_roots([-1] * 8)
        self.expect_roots([3, 3, 3])

    def test_roots_of_unity(self):
        for degree in range(1, 9):
            sums = [degree if power % degree == 0 else 0 for power in range(13)]
            self.expect_sums([-1] + [0] * (degree - 1) + [1], sums)
            sums = [(-1) ** (power // degree) * number for power, number in enumerate(sums)]
            self.expect_sums([5] + [0] * (degree - 1) + [5], sums)

    def test_multiples_have_the_same_sums(self):
        for scale in (1, -1, 6, -1000, Fraction(1, 7), Fraction(-3, 1000)):
            polynomial = [scale * number for number in (3, -5, 0, 2, 7)]
            self.expect_sums(polynomial, power_sums([3, -5, 0, 2, 7], 12))

    def test_small_coefficients(self):
        for polynomial in itertools.product((-2, 0, 1), repeat=4):
            if polynomial[-1] != 0:
                self.expect_sums(polynomial, power_sums(polynomial, 12))

    def test_every_degree(self):
        pool = random.Random(42)
        for degree in range(9):
            for times in range(6):
                bottom = pool.randint(1, 1000)
                polynomial = [Fraction(pool.randint(-60, 60), bottom) for power in range(degree)]
                polynomial.append(Fraction(pool.choice((-6, -1, 1, 4, 30)), bottom))
                self.expect_sums(polynomial, power_sums(polynomial, 12))

    def test_large_coefficients(self):
        for polynomial in large_polynomials():
            self.expect_sums(polynomial, power_sums(polynomial, 12))

    def test_a_stored_product(self):
        factors = [[997, Fraction(1, 1000)], [1, -1000000], [Fraction(1, 991), Fraction(-5, 991)]]
        replies = run(("create",), *building(2, 3, factors), ("power_sums", 2, 12), ("power_sums", 2, 0))
        self.assertEqual(replies[-2:], [shown(power_sums(product(factors), 12)), [1, 3, 1]])


class HermiteInertiaTest(CallTest):
    def expect_inertia(self, polynomial, positive, negative):
        # the inertia of a multiple is the same
        for scale in (1, -1, Fraction(1, 10), Fraction(-7, 3)):
            scaled = [scale * coefficient for coefficient in polynomial]
            self.expect_of(scaled, (("hermite_inertia", 0), [positive, negative]))

    def test_written_out(self):
        self.expect_inertia([-2, 0, 1], 2, 0)
        self.expect_inertia([2, 0, 1], 1, 1)
        self.expect_inertia([1, -2, 1], 1, 0)
        self.expect_inertia([-5, 3], 1, 0)
        self.expect_inertia([0, 1], 1, 0)
        self.expect_inertia([1, 0, 0, 1], 2, 1)

    def test_constants(self):
        for constant in (1, -1, 1000, Fraction(1, 100)):
            self.expect_inertia([constant], 0, 0)

    def test_real_roots(self):
        self.expect_inertia(from_roots([1, 2, 3, 4, 5, 6, 7, 8]), 8, 0)
        self.expect_inertia(from_roots([-1, 1, -2, 2, -3, 3, 0, 0]), 7, 0)
        self.expect_inertia([0] * 8 + [1], 1, 0)
        self.expect_inertia(from_roots([2, 2, 3, 3, 5, 5, 7, 7]), 4, 0)
        self.expect_inertia(product([[-2, 0, 1]] * 4), 2, 0)

    def test_complex_roots(self):
        for pairs in range(1, 5):
            self.expect_inertia(product([[number * number, 0, 1] for number in range(1, pairs + 1)]), pairs, pairs)
            self.expect_inertia(product([[1, 1, 1]] * pairs), 1, 1)
        self.expect_inertia(product([[1, 0, 1]] * 3 + [[-1, 1]] * 2), 2, 1)

    def test_roots_of_unity(self):
        # without entries on the diagonal but for the first one and one more at most
        for degree in range(1, 9):
            pairs = (degree - 1) // 2
            self.expect_inertia([-1] + [0] * (degree - 1) + [1], degree - pairs, pairs)
            self.expect_inertia([-3] + [0] * (degree - 1) + [1], degree - pairs, pairs)
            pairs = degree // 2
            self.expect_inertia([1] + [0] * (degree - 1) + [1], degree - pairs, pairs)
            self.expect_inertia([2] + [0] * (degree - 1) + [7], degree - pairs, pairs)

    def test_many_zeros_between(self):
        for places in itertools.combinations(range(8), 2):
            for first, second in itertools.product((-1, 1, 3), repeat=2):
                polynomial = [0] * 8 + [1]
                polynomial[places[0]] = first
                polynomial[places[1]] = second
                self.expect_of(polynomial, (("hermite_inertia", 0), list(hermite(polynomial, [1]))))

    def test_all_small_polynomials(self):
        for degree in range(1, 5):
            for polynomial in itertools.product((-1, 0, 1), repeat=degree):
                polynomial = list(polynomial) + [1]
                self.expect_of(polynomial, (("hermite_inertia", 0), list(hermite(polynomial, [1]))))

    def test_random_polynomials(self):
        pool = random.Random(43)
        for degree in range(1, 9):
            for times in range(15):
                polynomial = [pool.choice((0, 0, 1, -1, 2, -3, 17)) for power in range(degree)]
                polynomial.append(pool.choice((-6, -1, 1, 2)))
                self.expect_of(polynomial, (("hermite_inertia", 0), list(hermite(polynomial, [1]))))

    def test_large_coefficients(self):
        for polynomial in large_polynomials():
            self.expect_of(polynomial, (("hermite_inertia", 0), list(hermite(polynomial, [1]))))

    def test_a_stored_product(self):
        for factors in ([[1, Fraction(1, 1000), 1000], [-1, Fraction(1, 999), 999], [Fraction(1, 997), 0, 0, 991]],
                        [[1, 0, 1000000]] * 2 + [[-2, 0, 1]] * 2):
            replies = run(("create",), *building(2, 3, factors), ("hermite_inertia", 2))
            self.assertEqual(replies[-1], list(hermite(product(factors), [1])))

    def test_the_rank_is_the_number_of_complex_roots(self):
        pool = random.Random(44)
        for times in range(40):
            factors = [pool.choice(([0, 1], [-1, 1], [1, 0, 1], [-2, 0, 1], [1, 1, 1])) for place in range(4)]
            polynomial = product(factors)
            rank = len(without_multiple_roots(polynomial)) - 1
            positive, negative = hermite(polynomial, [1])
            self.assertEqual(positive + negative, rank)
            self.expect_of(polynomial, (("hermite_inertia", 0), [positive, negative]))


class NewtonTest(CallTest):
    def first(self, c):
        """The answer, word for word as the document has it."""
        n = len(c) - 1
        for k in range(1, n):
            if not c[k - 1] * c[k + 1] * (k + 1) * (n - k + 1) <= c[k] ** 2 * k * (n - k):
                return k
        return 0

    def expect_first(self, polynomial, answer):
        self.assertEqual(self.first(polynomial), answer, polynomial)
        for scale in (1, -1, Fraction(1, 6), Fraction(-3, 7)):
            self.expect_of([scale * c for c in polynomial], (("first_newton_violation", 0), answer))

    def test_small_degrees(self):
        for polynomial in ([1], [-1], [7], [0, 1], [1, 1], [-3, 2], [1000, -1]):
            self.expect_first(polynomial, 0)

    def test_degree_2(self):
        # the inequality says that the discriminant is not below 0
        for a in (1, -1, 2):
            for b in range(-4, 5):
                for c in range(-4, 5):
                    self.expect_first([c, b, a], 1 if b * b - 4 * a * c < 0 else 0)

    def test_both_sides_alike(self):
        # (x + 1)^n has the same number on both sides for every k
        for degree in range(2, 9):
            polynomial = from_roots([-1] * degree)
            self.expect_first(polynomial, 0)
            self.expect_first(from_roots([1] * degree), 0)
            for k in range(1, degree):
                # less in the middle breaks it at k, more breaks it beside k
                less = list(polynomial)
                less[k] -= Fraction(1, 10)
                self.expect_first(less, k)
                more = list(polynomial)
                more[k] += Fraction(1, 10)
                self.expect_first(more, k - 1 if k > 1 else 2 if degree > 2 else 0)

    def test_each_index(self):
        for degree in range(2, 9):
            for k in range(1, degree):
                polynomial = [0] * (degree + 1)
                polynomial[degree] = 1
                polynomial[k - 1] = 1
                polynomial[k + 1] = 1
                self.expect_first(polynomial, k)
                polynomial[k - 1] = -1
                self.expect_first(polynomial, self.first(polynomial))

    def test_the_first_of_two(self):
        self.expect_first([1, 0, 1, 0, 1], 1)
        self.expect_first([-1, 0, 1, 0, 1], 3)
        self.expect_first([1, 100, 1, 0, 1], 3)
        self.expect_first([1, 1, 1, 1, 1, 1, 1, 1, 1], 1)
        self.expect_first([1, 1000, 1000, 1, 1, 1, 1, 1, 1], 3)

    def test_real_rooted(self):
        for roots in ([1, 2, 3, 4, 5, 6, 7, 8], [-1, -1, 2, 2, 0], [0] * 8, [Fraction(1, 2), Fraction(-1, 3), 3]):
            self.expect_first(from_roots(roots), 0)

    def test_holds_though_not_real_rooted(self):
        self.expect_first([-1, 0, 0, 1], 0)
        self.expect_first([-2, 0, 0, 0, 0, 0, 0, 0, 1], 0)
        self.expect_of([-1, 0, 0, 1], (("is_real_rooted", 0), 0))

    def test_small_coefficients(self):
        for polynomial in itertools.product((-1, 0, 1, 3), repeat=5):
            if polynomial[-1] != 0:
                self.expect_of(polynomial, (("first_newton_violation", 0), self.first(polynomial)))

    def test_every_degree(self):
        pool = random.Random(45)
        for degree in range(2, 9):
            for times in range(40):
                # near to a real-rooted polynomial, so that the first index varies
                polynomial = from_roots([pool.randint(-2, 2) for place in range(degree)], 10)
                polynomial[pool.randint(0, degree)] += pool.choice((-1, 1, 7))
                self.expect_of(polynomial, (("first_newton_violation", 0), self.first(polynomial)))

    def test_large_coefficients(self):
        for polynomial in large_polynomials():
            self.expect_of(polynomial, (("first_newton_violation", 0), self.first(polynomial)))
        # the sides differ by little
        self.expect_of([1000000, 2000 - 1, 1], (("first_newton_violation", 0), 1))
        self.expect_of([1000000, 2000, 1], (("first_newton_violation", 0), 0))
        self.expect_of([250000, 1000000, 999999], (("first_newton_violation", 0), 0))
        self.expect_of([250000, 999999, 1000000], (("first_newton_violation", 0), 1))
        self.expect_of([249999, 999998, 1000000], (("first_newton_violation", 0), 0))
        self.expect_of([500000, 1000000, 500000], (("first_newton_violation", 0), 0))
        self.expect_of([500000, 999999, 500000], (("first_newton_violation", 0), 1))
        self.expect_of([500000, -1000000, 500000], (("first_newton_violation", 0), 0))
        self.expect_of([500000, -999999, 500000], (("first_newton_violation", 0), 1))

    def test_different_denominators(self):
        factors = [[Fraction(1, 2), Fraction(1, 3)], [Fraction(3, 7), Fraction(-2, 5)], [1, Fraction(1, 997), 5]]
        replies = run(("create",), *building(1, 0, factors), ("first_newton_violation", 1))
        self.assertEqual(replies[-1], [self.first(product(factors))])


if __name__ == "__main__":
    unittest.main()
