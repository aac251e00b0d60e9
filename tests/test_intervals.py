"""count_roots_between and count_roots_up_to."""

import itertools
import unittest
from fractions import Fraction

from helper import CallTest, at, between, fits, from_roots, product


def linear(numerator, denominator):
    """The factor with one rational root, and for that root whether it is at most a point."""
    return ([-numerator, denominator], [lambda point: point >= Fraction(numerator, denominator)])


# each factor with, for each of its real roots, whether it is at most a point; no two share a root
FACTORS = [
    linear(0, 1),
    linear(1, 1),
    linear(-3, 2),
    linear(2, 3),
    ([-2, 0, 1], [lambda p: p >= 0 or p * p <= 2, lambda p: p >= 0 and p * p >= 2]),
    ([-1, -1, 1], [lambda p: p >= Fraction(1, 2) or (2 * p - 1) ** 2 <= 5,
                   lambda p: p >= Fraction(1, 2) and (2 * p - 1) ** 2 >= 5]),
    ([-2, 0, 0, 1], [lambda p: p ** 3 >= 2]),
    ([1, 0, 1], []),
    ([3, -2, 1], []),
]
LEADS = (1, -1, 2, Fraction(-1, 3), Fraction(7, 10))
POINTS = [Fraction(point) for point in (-1000000, -2, "-3/2", "-1415/1000", "-1414/1000", -1, "-618/1000", 0, "1/2",
                                        "2/3", 1, "1259/1000", "5/4", "1415/1000", "1619/1000", 1000000)]


def combinations():
    """Polynomials up to degree 8 made of the factors, each with its roots as often as they occur."""
    leads = itertools.cycle(LEADS)
    for count in range(5):
        for factors in itertools.combinations_with_replacement(FACTORS, count):
            polynomial = product([[next(leads)]] + [coefficients for coefficients, roots in factors])
            if len(polynomial) <= 9 and fits(polynomial):
                yield polynomial, [root for coefficients, roots in factors for root in roots]


class KnownRootsTest(CallTest):
    def test_all_combinations(self):
        points = sorted(POINTS)
        for polynomial, roots in combinations():
            rows = [
                (("count_distinct_roots", 0), len(set(roots))),
                (("count_roots", 0), len(roots)),
                (("is_real_rooted", 0), 1 if len(roots) == len(polynomial) - 1 else 0),
            ]
            lying = {point: [root for root in roots if root(point)] for point in points}
            rows += [(at("count_roots_up_to", point), len(lying[point])) for point in points]
            for low, high in itertools.combinations(points, 2):
                inside = [root for root in lying[high] if root not in lying[low]]
                rows.append((between(low, high), [len(set(inside)), len(inside)]))
            self.expect_of(polynomial, *rows)


class EndsTest(CallTest):
    def test_a_root_at_an_end(self):
        for times in range(1, 9):
            for root in (0, 1, -1, Fraction(1, 2), Fraction(-3, 2)):
                self.expect_of(
                    from_roots([root] * times),
                    (between(root - 1, root), [1, times]),
                    (between(root, root + 1), [0, 0]),
                    (between(root - Fraction(1, 100), root + Fraction(1, 100)), [1, times]),
                    (between(root - 2, root - 1), [0, 0]),
                    (at("count_roots_up_to", root), times),
                    (at("count_roots_up_to", root - Fraction(1, 100)), 0),
                    (at("count_roots_up_to", root + Fraction(1, 100)), times),
                )

    def test_roots_at_both_ends(self):
        self.expect_of(
            from_roots([0, 0, 1, 1, 1, 2]),
            (between(0, 1), [1, 3]),
            (between(0, 2), [2, 4]),
            (between(1, 2), [1, 1]),
            (between(-1, 0), [1, 2]),
            (between(-1, 2), [3, 6]),
            (between(2, 3), [0, 0]),
            (at("count_roots_up_to", 0), 2),
            (at("count_roots_up_to", 1), 5),
            (at("count_roots_up_to", 2), 6),
            (at("count_roots_up_to", -1), 0),
        )

    def test_arguments_that_are_not_in_lowest_terms(self):
        self.expect_of(
            from_roots([Fraction(1, 2), Fraction(-1, 3)]),
            (("count_roots_between", 0, -300, 900, 500, 1000), [1, 1]),
            (("count_roots_between", 0, -400, 900, 500, 1000), [2, 2]),
            (("count_roots_between", 0, 2, 4, 1000, 1000), [0, 0]),
            (("count_roots_between", 0, 0, 1000, 2, 4), [1, 1]),
            (("count_roots_up_to", 0, 500, 1000), 2),
            (("count_roots_up_to", 0, 499, 1000), 1),
            (("count_roots_up_to", 0, -3, 9), 1),
            (("count_roots_up_to", 0, 0, 1000), 1),
        )

    def test_close_to_a_root_that_is_not_rational(self):
        for times in range(1, 5):
            self.expect_of(
                product([[-2, 0, 1]] * times),
                (("count_roots_between", 0, 1414, 1000, 1415, 1000), [1, times]),
                (("count_roots_between", 0, 1393, 985, 577, 408), [1, times]),
                (("count_roots_between", 0, 1413, 1000, 1414, 1000), [0, 0]),
                (("count_roots_between", 0, -577, 408, -1393, 985), [1, times]),
                (("count_roots_between", 0, -1415, 1000, 1415, 1000), [2, 2 * times]),
                (("count_roots_between", 0, -1414, 1000, 1414, 1000), [0, 0]),
                (("count_roots_up_to", 0, -577, 408), 0),
                (("count_roots_up_to", 0, -1393, 985), times),
                (("count_roots_up_to", 0, 1393, 985), times),
                (("count_roots_up_to", 0, 577, 408), 2 * times),
            )

    def test_ends_of_the_ranges(self):
        self.expect_of(
            [-1000000, 1],
            (("count_roots_between", 0, 999999, 1, 1000000, 1), [1, 1]),
            (("count_roots_between", 0, -1000000, 1, 999999, 1), [0, 0]),
            (("count_roots_up_to", 0, 1000000, 1), 1),
            (("count_roots_up_to", 0, 999999, 1), 0),
        )
        self.expect_of(
            [1000000, 1],
            (("count_roots_between", 0, -1000000, 1, -999999, 1), [0, 0]),
            (("count_roots_up_to", 0, -1000000, 1), 1),
            (("count_roots_between", 0, -1000000, 1, 1000000, 1), [0, 0]),
        )
        self.expect_of(
            [-1, 1000],
            (("count_roots_between", 0, 0, 1000, 1, 1000), [1, 1]),
            (("count_roots_between", 0, 1, 1000, 1, 999), [0, 0]),
            (("count_roots_up_to", 0, 1, 1000), 1),
            (("count_roots_up_to", 0, 0, 1000), 0),
        )

    def test_roots_beyond_all_arguments(self):
        # the roots of x^2 - 1000000 x - 1 lie just below 0 and just above 1000000
        self.expect_of(
            [-1, -1000000, 1],
            (("count_roots", 0), 2),
            (("count_roots_up_to", 0, 1000000, 1), 1),
            (("count_roots_between", 0, -1000000, 1, 1000000, 1), [1, 1]),
            (("count_roots_between", 0, 0, 1, 1000000, 1), [0, 0]),
        )
        # those of x^2 + 1000000 x - 1 just above 0 and just below -1000000
        self.expect_of(
            [-1, 1000000, 1],
            (("count_roots", 0), 2),
            (("count_roots_up_to", 0, -1000000, 1), 1),
            (("count_roots_up_to", 0, 0, 1), 1),
            (("count_roots_between", 0, -1000000, 1, 1000000, 1), [1, 1]),
            (("count_roots_between", 0, -1000000, 1, 0, 1), [0, 0]),
        )

    def test_roots_at_whole_ends(self):
        self.expect(
            (("create",), 0),
            (("set_polynomial", 0, 1000, [1000000, 1]), [2, 1000, 1, 1, 1000]),
            (("count_roots_up_to", 0, -1000000, 1), 1),
            (("count_roots_up_to", 0, -999999, 1), 1),
            (("count_roots_between", 0, -1000000, 1, -999999, 1), [0, 0]),
            (("set_polynomial", 0, 1, [1000000, 0, -1]), [3, 1000000, 1, 0, 1, -1, 1]),
            (("count_roots_between", 0, -1000, 1, 1000, 1), [1, 1]),
            (("count_roots_between", 0, -1001, 1, 1000, 1), [2, 2]),
            (("count_roots_up_to", 0, -1000, 1), 1),
        )

    def test_constants(self):
        for constant in (1, -3, Fraction(2, 7)):
            rows = [(at("count_roots_up_to", point), 0) for point in POINTS]
            rows += [(between(low, high), [0, 0]) for low, high in itertools.combinations(sorted(POINTS), 2)]
            self.expect_of([constant], *rows)


if __name__ == "__main__":
    unittest.main()
