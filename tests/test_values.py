"""evaluate and multiplicity."""

import unittest
from fractions import Fraction

from helper import CallTest, at, from_roots, product, value

POINTS = (0, 1, -1, 2, -2, Fraction(1, 2), Fraction(-1, 2), Fraction(2, 3), Fraction(-7, 5), Fraction(999, 1000),
          Fraction(-1, 1000), 1000000, -1000000, Fraction(1000000, 999), Fraction(-999999, 1000))


def answered(number):
    """How evaluate has to answer a value."""
    return [0, Fraction(number).numerator, Fraction(number).denominator]


class EvaluateTest(CallTest):
    def test_ordinary(self):
        self.expect_of(
            [-2, 0, 1],
            (("evaluate", 0, 0, 1), [0, -2, 1]),
            (("evaluate", 0, 3, 1), [0, 7, 1]),
            (("evaluate", 0, -3, 1), [0, 7, 1]),
            (("evaluate", 0, 1, 2), [0, -7, 4]),
            (("evaluate", 0, -3, 2), [0, 1, 4]),
        )
        self.expect_of(
            [Fraction(1, 6), Fraction(-1, 4)],
            (("evaluate", 0, 2, 3), [0, 0, 1]),
            (("evaluate", 0, 1, 1), [0, -1, 12]),
            (("evaluate", 0, -2, 3), [0, 1, 3]),
        )

    def test_not_in_lowest_terms(self):
        self.expect_of(
            [1, 1, 1],
            (("evaluate", 0, 2, 4), [0, 7, 4]),
            (("evaluate", 0, -500, 1000), [0, 3, 4]),
            (("evaluate", 0, 1000000, 1000), [0, 1001001, 1]),
            (("evaluate", 0, 0, 1000), [0, 1, 1]),
        )

    def test_zero_is_0_1(self):
        roots = [Fraction(1, 2), Fraction(-3, 4), 2]
        rows = [(at("evaluate", root), [0, 0, 1]) for root in roots]
        self.expect_of(from_roots(roots), *rows, (("evaluate", 0, 6, 12), [0, 0, 1]))

    def test_zero_polynomial(self):
        self.expect_of([], *[(at("evaluate", point), [0, 0, 1]) for point in POINTS])

    def test_constants(self):
        for constant in (1, -1, Fraction(3, 7), Fraction(-1000000, 999)):
            self.expect_of([constant], *[(at("evaluate", point), answered(constant)) for point in POINTS])

    def test_every_degree(self):
        for degree in range(9):
            for denominator in (1, 6, 1000):
                polynomial = [Fraction(17 * power * power - 90, denominator) for power in range(degree + 1)]
                rows = [(at("evaluate", point), answered(value(polynomial, point))) for point in POINTS]
                self.expect_of(polynomial, *rows)

    def test_large_values(self):
        self.expect_of(
            [1000000] * 9,
            (("evaluate", 0, 1000000, 1), [0, sum(10 ** (6 * power) for power in range(1, 10)), 1]),
        )
        self.expect_of(
            [Fraction(-999999, 1000)] * 9,
            *[(at("evaluate", point), answered(value([Fraction(-999999, 1000)] * 9, point))) for point in POINTS],
        )
        # far more digits than 64 bits or a floating number hold
        self.expect_of([Fraction(1, 1000)] + [0] * 7 + [Fraction(1, 1000)],
                       (("evaluate", 0, 999, 1000), [0, 999 ** 8 + 1000 ** 8, 1000 ** 9]))


class MultiplicityTest(CallTest):
    def test_every_multiplicity(self):
        for root in (0, 1, -1, 2, Fraction(1, 2), Fraction(-1, 2), Fraction(-3, 2)):
            for times in range(9):
                self.expect_of(
                    from_roots([root] * times),
                    (at("multiplicity", root), times),
                    (at("multiplicity", root + 1), 0),
                    (at("multiplicity", root - Fraction(1, 3)), 0),
                )

    def test_several_roots(self):
        self.expect_of(
            from_roots([0, 0, 0, 1, 1, Fraction(-1, 3), 5, 5]),
            (("multiplicity", 0, 0, 1), 3),
            (("multiplicity", 0, 0, 1000), 3),
            (("multiplicity", 0, 1, 1), 2),
            (("multiplicity", 0, 1000, 1000), 2),
            (("multiplicity", 0, -1, 3), 1),
            (("multiplicity", 0, -300, 900), 1),
            (("multiplicity", 0, 1, 3), 0),
            (("multiplicity", 0, 5, 1), 2),
            (("multiplicity", 0, 10, 2), 2),
            (("multiplicity", 0, -5, 1), 0),
            (("multiplicity", 0, 1000000, 1), 0),
        )

    def test_beside_other_factors(self):
        for other in ([1, 0, 1], [-2, 0, 1], [1, 1, 1], [-2, 0, 0, 1]):
            self.expect_of(
                product([other, other, [-1, 2], [-1, 2]]),
                (("multiplicity", 0, 1, 2), 2),
                (("multiplicity", 0, 1, 1), 0),
                (("multiplicity", 0, 0, 1), 0),
                (("multiplicity", 0, 1414, 1000), 0),
            )

    def test_constants_have_no_roots(self):
        for constant in (1, -5, Fraction(1, 1000)):
            self.expect_of([constant], *[(at("multiplicity", point), 0) for point in POINTS])

    def test_the_first_of_a_power_that_does_not_divide(self):
        # 1 is a root of the derivative and not of the polynomial, and the other way round
        self.expect_of([2, -2, 1], (("multiplicity", 0, 1, 1), 0))
        self.expect_of([0, 0, 0, 5, 7], (("multiplicity", 0, 0, 1), 3), (("multiplicity", 0, -5, 7), 1))

    def test_ends_of_the_ranges(self):
        self.expect_of(
            [-1000000, 1],
            (("multiplicity", 0, 1000000, 1), 1), (("multiplicity", 0, 999999, 1), 0),
            (("multiplicity", 0, -1000000, 1), 0),
        )
        self.expect_of(
            [1, 1000],
            (("multiplicity", 0, -1, 1000), 1), (("multiplicity", 0, 1, 1000), 0), (("multiplicity", 0, -1, 999), 0),
        )


if __name__ == "__main__":
    unittest.main()
