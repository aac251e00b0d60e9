"""count_distinct_roots, count_roots and is_real_rooted."""

import unittest
from fractions import Fraction

from helper import CallTest, from_roots, product


class CountsTest(CallTest):
    def expect_counts(self, polynomial, distinct, total):
        rooted = 1 if total == len(polynomial) - 1 else 0
        # a multiple of a polynomial has the same roots
        for scale in (1, -1, Fraction(1, 10), Fraction(-7, 3)):
            self.expect_of(
                [scale * coefficient for coefficient in polynomial],
                (("count_distinct_roots", 0), distinct),
                (("count_roots", 0), total),
                (("is_real_rooted", 0), rooted),
            )

    def test_constants(self):
        for constant in (1, -1, 1000, Fraction(1, 100)):
            self.expect_counts([constant], 0, 0)
        self.expect_of([5], (("is_real_rooted", 0), 1))

    def test_degree_1(self):
        for polynomial in ([0, 1], [1, 1], [-7, 3], [Fraction(1, 2), Fraction(-1, 3)], [100000, 1], [1, -100000]):
            self.expect_counts(polynomial, 1, 1)

    def test_degree_2(self):
        for a in (1, -1, 2):
            for b in range(-4, 5):
                for c in range(-4, 5):
                    below = b * b - 4 * a * c
                    distinct = 2 if below > 0 else 1 if below == 0 else 0
                    self.expect_counts([c, b, a], distinct, 0 if below < 0 else 2)

    def test_degree_3_without_square(self):
        for p in range(-4, 5):
            for q in range(-5, 6):
                below = -4 * p ** 3 - 27 * q * q
                if below > 0:
                    distinct, total = 3, 3
                elif below < 0:
                    distinct, total = 1, 1
                else:
                    distinct, total = (2 if p else 1), 3
                self.expect_counts([q, p, 0, 1], distinct, total)

    def test_rational_roots(self):
        self.expect_counts(from_roots([1, 2, 3, 4, 5, 6, 7, 8]), 8, 8)
        self.expect_counts(from_roots([-1, 1, -2, 2, -3, 3, 0, 0]), 7, 8)
        self.expect_counts(from_roots([Fraction(1, 2), Fraction(1, 2), Fraction(-1, 3)]), 2, 3)
        self.expect_counts([0, 0, 0, 0, 0, 0, 0, 0, 1], 1, 8)
        self.expect_counts(from_roots([-1] * 8), 1, 8)
        self.expect_counts(from_roots([1] * 7 + [-1]), 2, 8)
        self.expect_counts(from_roots([0, 0, 0, 1, 1, 1, 1]), 2, 7)
        self.expect_counts(from_roots([2, 2, 3, 3, 5, 5, 7, 7]), 4, 8)

    def test_roots_that_are_not_rational(self):
        self.expect_counts([-2, 0, 1], 2, 2)
        self.expect_counts([-2, 0, 0, 1], 1, 1)
        self.expect_counts([1, 0, -10, 0, 1], 4, 4)
        self.expect_counts([-1, -1, 0, 0, 0, 1], 1, 1)
        self.expect_counts([-1, -4, 0, 0, 0, 1], 3, 3)
        self.expect_counts([1, -3, 0, 1], 3, 3)

    def test_multiple_roots_that_are_not_rational(self):
        for times in range(1, 5):
            self.expect_counts(product([[-2, 0, 1]] * times), 2, 2 * times)
            self.expect_counts(product([[-1, -1, 1]] * times), 2, 2 * times)
        self.expect_counts(product([[-2, 0, 0, 1]] * 2), 1, 2)
        self.expect_counts(product([[1, -3, 0, 1]] * 2 + [[0, 1]] * 2), 4, 8)
        self.expect_counts(product([[-2, 0, 1]] * 3 + [[-3, 0, 1]]), 4, 8)
        self.expect_counts(product([[-2, 0, 0, 1]] * 2 + [[-1, 1]]), 2, 3)

    def test_without_a_real_root(self):
        for times in range(1, 5):
            self.expect_counts(product([[1, 0, 1]] * times), 0, 0)
            self.expect_counts(product([[1, 1, 1]] * times), 0, 0)
        self.expect_counts([1, 0, 0, 0, 1], 0, 0)
        self.expect_counts([1, 0, 0, 0, 0, 0, 0, 0, 1], 0, 0)
        self.expect_counts(product([[1, 0, 1], [2, 0, 1], [3, 0, 1], [1, 1, 1]]), 0, 0)

    def test_real_roots_beside_others(self):
        self.expect_counts(product([[1, 0, 1], [-1, 1]]), 1, 1)
        self.expect_counts(product([[1, 0, 1]] * 2 + [[-1, 1]] * 3), 1, 3)
        self.expect_counts(product([[1, 0, 1]] * 3 + [[-2, 0, 1]]), 2, 2)
        self.expect_counts(product([[1, 0, 1]] + [[-2, 0, 1]] * 3), 2, 6)
        self.expect_counts(product([[1, 1, 1]] * 2 + [[-2, 0, 1]] * 2), 2, 4)
        self.expect_counts([-1, 0, 0, 0, 1], 2, 2)
        self.expect_counts([-1, 0, 0, 0, 0, 0, 0, 0, 1], 2, 2)

    def test_degree_8(self):
        # Chebyshev's polynomial: 8 roots between -1 and 1
        self.expect_counts([1, 0, -32, 0, 160, 0, -256, 0, 128], 8, 8)
        self.expect_counts([2, 0, -32, 0, 160, 0, -256, 0, 128], 4, 8)
        self.expect_counts([3, 0, -32, 0, 160, 0, -256, 0, 128], 0, 0)
        self.expect_counts([0, 0, -32, 0, 160, 0, -256, 0, 128], 5, 8)
        self.expect_counts([-1, 0, -32, 0, 160, 0, -256, 0, 128], 2, 2)

    def test_large_coefficients(self):
        for slot in (0, 3):
            self.expect(
                (("create",), 0),
                (("set_polynomial", slot, 1000, [-1000000] + [1000000] * 8), [9, -1000, 1] + [1000, 1] * 8),
                (("count_distinct_roots", slot), 2),
                (("count_roots", slot), 2),
                (("is_real_rooted", slot), 0),
                (("set_polynomial", slot, 1, [1000000] * 9), [9] + [1000000, 1] * 9),
                (("count_distinct_roots", slot), 0),
                (("count_roots", slot), 0),
                (("is_real_rooted", slot), 0),
                (("set_polynomial", slot, 1, [1000000] * 8), [8] + [1000000, 1] * 8),
                (("count_distinct_roots", slot), 1),
                (("count_roots", slot), 1),
                (("is_real_rooted", slot), 0),
            )

    def test_roots_that_lie_close(self):
        # x^8 - 2 (700 x - 1)^2: two of its four roots are less than 10^-13 apart
        close = [-2, 2800, -980000, 0, 0, 0, 0, 0, 1]
        self.expect_of(
            close,
            (("count_distinct_roots", 0), 4),
            (("count_roots", 0), 4),
            (("is_real_rooted", 0), 0),
            (("count_roots_between", 0, 1, 1000, 2, 1000), [2, 2]),
            (("count_roots_between", 0, 1, 1000, 1, 700), [1, 1]),
            (("count_roots_between", 0, 1, 700, 2, 1000), [1, 1]),
            (("count_roots_up_to", 0, 1, 700), 2),
            (("multiplicity", 0, 1, 700), 0),
        )
        # with the sign turned these two are gone
        apart = [2, -2800, 980000, 0, 0, 0, 0, 0, 1]
        self.expect_of(apart, (("count_roots", 0), 0), (("count_roots_up_to", 0, 1, 1), 0))

    def test_near_a_multiple_root(self):
        power = from_roots([1] * 8)
        below = [power[0] - Fraction(1, 1000)] + power[1:]
        above = [power[0] + Fraction(1, 1000)] + power[1:]
        self.expect_of(below, (("count_distinct_roots", 0), 2), (("count_roots", 0), 2))
        self.expect_of(above, (("count_distinct_roots", 0), 0), (("count_roots", 0), 0))


if __name__ == "__main__":
    unittest.main()
