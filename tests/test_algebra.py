"""squarefree, gcd, derivative and multiply: what they store and answer, and in which slots."""

import itertools
import random
import unittest
from fractions import Fraction

from helper import CallTest, derived, fits, from_roots, greatest_common, monic, product, run, setting_call, shown
from helper import trimmed, without_multiple_roots

# no two of them have a complex root in common
FACTORS = ([0, 1], [-1, 1], [1, 2], [-2, 3], [-2, 0, 1], [1, 0, 1], [1, 1, 1], [-2, 0, 0, 1])
POLYNOMIALS = ([], [1], [-1], [Fraction(3, 2)], [Fraction(-1, 1000)], [0, 1], [0, -1], [1, 1], [-1, 2], [0, 0, 3],
               [-2, 0, 1], [1, 0, 1], [1, -2, 1], [Fraction(1, 2), Fraction(-1, 3), Fraction(1, 6)], [0, 0, 0, 0, -7],
               [1, 1, 1, 1, 1], [-4, 0, 0, 0, 1], [1000000] * 4, [Fraction(1, 997)] * 5)
OTHER = [7, 0, Fraction(-1, 3)]


class AlgebraTest(CallTest):
    def expect_stored(self, polynomials, call, result):
        """A call on slots that are set first, whose last number is the target of the result."""
        kept = {slot: trimmed(polynomials[slot]) for slot in range(4)}
        kept[call[-1]] = result
        settings = [setting_call(slot, polynomials[slot]) for slot in range(4)]
        replies = run(("create",), *settings, call, *[("get_polynomial", slot) for slot in range(4)])
        with self.subTest(call=call, polynomials=[[str(c) for c in polynomial] for polynomial in polynomials]):
            self.assertEqual(replies[5:], [shown(result)] + [shown(kept[slot]) for slot in range(4)])

    def expect_of_one(self, name, polynomial, result):
        """A call with one source, for every source and target."""
        for source in range(4):
            polynomials = [OTHER] * 4
            polynomials[source] = polynomial
            for target in range(4):
                self.expect_stored(polynomials, (name, source, target), result)

    def expect_of_two(self, name, first, second, result):
        """A call with two sources in different slots, for every target and both orders."""
        for one, two in ((0, 1), (3, 2), (1, 3)):
            polynomials = [OTHER] * 4
            polynomials[one] = first
            polynomials[two] = second
            for target in range(4):
                self.expect_stored(polynomials, (name, one, two, target), result)
                self.expect_stored(polynomials, (name, two, one, target), result)

    def expect_of_same(self, name, polynomial, result):
        """A call with one slot in both places, for every target."""
        for slot in (0, 3):
            polynomials = [OTHER] * 4
            polynomials[slot] = polynomial
            for target in range(4):
                self.expect_stored(polynomials, (name, slot, slot, target), result)


class SquarefreeTest(AlgebraTest):
    def test_ordinary(self):
        self.expect_of_one("squarefree", [1, -2, 1], [-1, 1])
        self.expect_of_one("squarefree", [-2, 0, 1], [-2, 0, 1])
        self.expect_of_one("squarefree", [-2, 0, 4], [Fraction(-1, 2), 0, 1])
        self.expect_of_one("squarefree", [2, 0, -4], [Fraction(-1, 2), 0, 1])
        self.expect_of_one("squarefree", [0, 0, 0, 0, 0, 0, 0, 0, -5], [0, 1])
        self.expect_of_one("squarefree", [-1, -3], [Fraction(1, 3), 1])
        self.expect_of_one("squarefree", [Fraction(1, 6), Fraction(-1, 10)], [Fraction(-5, 3), 1])

    def test_constants(self):
        for constant in (1, -1, 17, Fraction(3, 7), Fraction(-1, 1000), 1000000):
            self.expect_of_one("squarefree", [constant], [1])

    def test_complex_roots_count_too(self):
        self.expect_of_one("squarefree", product([[1, 0, 1]] * 4), [1, 0, 1])
        self.expect_of_one("squarefree", product([[1, 0, 1]] * 2 + [[-1, 1]]), [-1, 1, -1, 1])
        self.expect_of_one("squarefree", [1, 0, 0, 0, 1], [1, 0, 0, 0, 1])

    def test_powers_of_factors(self):
        pool = random.Random(31)
        for times in range(60):
            chosen = pool.sample(FACTORS, pool.randint(1, 4))
            powers = []
            for factor in chosen:
                powers += [factor] * pool.randint(1, 3)
            while sum(len(factor) - 1 for factor in powers) > 8:
                powers.pop()
            polynomial = product([[Fraction(pool.choice((1, -1, 2, -3)), pool.choice((1, 2, 7)))]] + powers)
            kinds = [factor for factor in FACTORS if factor in powers]
            self.assertTrue(fits(polynomial))
            self.expect_stored([OTHER, polynomial, [5], []], ("squarefree", 1, pool.randrange(4)),
                               monic(product(kinds)))

    def test_all_small_polynomials(self):
        for polynomial in itertools.product((-1, 0, 1, 2), repeat=4):
            if any(polynomial):
                result = without_multiple_roots(trimmed(polynomial))
                self.expect_stored([polynomial, [], [], []], ("squarefree", 0, 3), result)

    def test_again_it_stays(self):
        for polynomial in POLYNOMIALS[1:]:
            replies = run(("create",), setting_call(0, polynomial), ("squarefree", 0, 1), ("squarefree", 1, 2),
                          ("squarefree", 1, 1), ("gcd", 1, 1, 1))
            self.assertEqual(replies[2:], [shown(without_multiple_roots(polynomial))] * 4)


class GcdTest(AlgebraTest):
    def test_ordinary(self):
        self.expect_of_two("gcd", from_roots([1, 2]), from_roots([2, 3]), [-2, 1])
        self.expect_of_two("gcd", from_roots([1, 1, 2], 3), from_roots([1, 1, 1], -5), [1, -2, 1])
        self.expect_of_two("gcd", [-2, 0, 1], [-2, 0, 1], [-2, 0, 1])
        self.expect_of_two("gcd", [-2, 0, 1], [4, 0, -2], [-2, 0, 1])
        self.expect_of_two("gcd", [-2, 0, 1], [-3, 0, 1], [1])
        self.expect_of_two("gcd", [0, 0, 0, 1], [0, 5], [0, 1])
        self.expect_of_two("gcd", [-1, 0, 4], [Fraction(1, 3), Fraction(2, 3)], [Fraction(1, 2), 1])
        self.expect_of_two("gcd", [1, 0, 0, 0, 0, 0, 0, 0, -1], [-1, 0, 0, 0, 0, 0, 1], [-1, 0, 1])

    def test_constants(self):
        for constant in (1, -1, 6, Fraction(-1, 4)):
            for polynomial in ([1], [-12], [Fraction(2, 3)], [0, 1], [-2, 0, 1], [6, 6], [1] * 9):
                self.expect_of_two("gcd", [constant], polynomial, [1])
            self.expect_of_same("gcd", [constant], [1])

    def test_same_slot(self):
        for polynomial in POLYNOMIALS[1:]:
            self.expect_of_same("gcd", polynomial, monic(polynomial))

    def test_powers_of_factors(self):
        pool = random.Random(32)
        for times in range(80):
            first, second, common = [], [], []
            for factor in pool.sample(FACTORS, 4):
                one, two = pool.randint(0, 2), pool.randint(0, 2)
                first += [factor] * one
                second += [factor] * two
                common += [factor] * min(one, two)
            first, second = product(first), product(second)
            if len(first) <= 9 and len(second) <= 9:
                scaled = [Fraction(-5, 6) * coefficient for coefficient in second]
                self.expect_stored([first, OTHER, scaled, []], ("gcd", 0, 2, pool.randrange(4)),
                                   monic(product(common)))
                self.expect_stored([first, OTHER, scaled, []], ("gcd", 2, 0, pool.randrange(4)),
                                   monic(product(common)))

    def test_random_pairs(self):
        pool = random.Random(33)
        for times in range(60):
            first = trimmed([pool.randint(-2, 2) for power in range(pool.randint(1, 9))])
            second = trimmed([pool.randint(-2, 2) for power in range(pool.randint(1, 9))])
            if first and second:
                self.expect_stored([first, second, [], OTHER], ("gcd", 0, 1, 2), greatest_common(first, second))


class DerivativeTest(AlgebraTest):
    def test_ordinary(self):
        self.expect_of_one("derivative", [-2, 0, 1], [0, 2])
        self.expect_of_one("derivative", [5, -7], [-7])
        self.expect_of_one("derivative", [Fraction(1, 2), Fraction(1, 3), Fraction(1, 4), Fraction(-1, 6)],
                           [Fraction(1, 3), Fraction(1, 2), Fraction(-1, 2)])
        self.expect_of_one("derivative", [1, 0, 0, 1], [0, 0, 3])
        self.expect_of_one("derivative", [1] * 9, [1, 2, 3, 4, 5, 6, 7, 8])
        self.expect_of_one("derivative", [1000000] * 9, [1000000 * power for power in range(1, 9)])

    def test_zero_and_constants(self):
        self.expect_of_one("derivative", [], [])
        for constant in (1, -1, 1000000, Fraction(-1, 1000)):
            self.expect_of_one("derivative", [constant], [])

    def test_every_degree(self):
        pool = random.Random(34)
        for degree in range(9):
            for times in range(6):
                bottom = pool.randint(1, 1000)
                polynomial = [Fraction(pool.randint(-1000000, 1000000), bottom) for power in range(degree)]
                polynomial.append(Fraction(pool.randint(1, 1000000), bottom))
                self.expect_stored([OTHER, polynomial, [], [1]], ("derivative", 1, pool.randrange(4)),
                                   derived(polynomial))

    def test_down_to_zero(self):
        polynomial = [1] * 9
        rows = [(("create",), 0), (("set_polynomial", 0, 1, polynomial), shown(polynomial))]
        while polynomial:
            polynomial = derived(polynomial)
            rows.append((("derivative", 0, 0), shown(polynomial)))
        self.assertEqual(len(rows), 11)
        rows.append((("derivative", 0, 0), 0))
        self.expect(*rows)


class MultiplyTest(AlgebraTest):
    def test_ordinary(self):
        self.expect_of_two("multiply", [-1, 1], [1, 1], [-1, 0, 1])
        self.expect_of_two("multiply", [Fraction(1, 2), Fraction(1, 3)], [Fraction(2, 5), Fraction(-3, 7)],
                           [Fraction(1, 5), Fraction(-17, 210), Fraction(-1, 7)])
        self.expect_of_two("multiply", [-2, 0, 1], [3], [-6, 0, 3])
        self.expect_of_two("multiply", [Fraction(1, 1000)], [1000], [1])
        self.expect_of_two("multiply", [0, 0, 1], [0, 0, 0, -2], [0, 0, 0, 0, 0, -2])

    def test_zero(self):
        for polynomial in POLYNOMIALS + ([1] * 9, [0] * 8 + [1]):
            self.expect_of_two("multiply", [], polynomial, [])
        self.expect_of_same("multiply", [], [])

    def test_all_pairs(self):
        for first, second in itertools.product(POLYNOMIALS[1:], repeat=2):
            if len(first) + len(second) <= 10:
                self.expect_stored([first, OTHER, second, [1, 2]], ("multiply", 0, 2, 3), product([first, second]))
                self.expect_stored([first, OTHER, second, [1, 2]], ("multiply", 2, 0, 0), product([first, second]))

    def test_same_slot(self):
        for polynomial in POLYNOMIALS:
            if len(polynomial) <= 5:
                result = product([polynomial, polynomial]) if polynomial else []
                self.expect_of_same("multiply", polynomial, result)

    def test_constants_with_the_greatest_degree(self):
        for constant in (1, -1, 1000000, Fraction(1, 1000)):
            self.expect_of_two("multiply", [constant], [1, 2, 3, 4, 5, 6, 7, 8, 9],
                               [constant * number for number in range(1, 10)])

    def test_factors_that_cancel(self):
        self.expect_of_two("multiply", [1, 1, 1], [1, -1, 1], [1, 0, 1, 0, 1])
        self.expect_of_two("multiply", from_roots([1, 2, 3, 4]), from_roots([-1, -2, -3, -4]),
                           from_roots([1, -1, 2, -2, 3, -3, 4, -4]))

    def test_other_calls_take_the_product(self):
        replies = run(
            ("create",),
            setting_call(0, [-1, 1]), setting_call(1, [-2, 0, 1]),
            ("multiply", 0, 1, 2), ("multiply", 2, 0, 2),
            ("degree", 2), ("count_distinct_roots", 2), ("count_roots", 2), ("multiplicity", 2, 1, 1),
            ("is_real_rooted", 2), ("squarefree", 2, 3), ("gcd", 2, 0, 0), ("evaluate", 2, 3, 1), ("summary",),
        )
        self.assertEqual(replies[5:], [
            [4], [3], [4], [2], [1], [4, 2, 1, -2, 1, -1, 1, 1, 1], [2, -1, 1, 1, 1], [0, 28, 1], [4, 2, 3, 5, 4],
        ])


class SummaryTest(CallTest):
    def test_after_create(self):
        self.expect((("create",), 0), (("summary",), [4, 0, 0, 0, 0]))

    def test_each_slot(self):
        for counts in itertools.product((0, 1, 2, 9), repeat=4):
            settings = [("set_polynomial", slot, 3, [0] * (count - 1) + [1] * (count > 0) + [0] * (9 - max(count, 1)))
                        for slot, count in enumerate(counts)]
            self.assertEqual(run(("create",), *settings, ("summary",))[-1], [4, *counts])

    def test_zeros_at_the_end_are_not_counted(self):
        self.expect(
            (("create",), 0),
            (("set_polynomial", 2, 1, [1, 2, 0, 0]), [2, 1, 1, 2, 1]),
            (("set_polynomial", 3, 1, [0, 0, 0]), 0),
            (("summary",), [4, 0, 0, 2, 0]),
        )

    def test_it_follows_the_slots(self):
        self.expect(
            (("create",), 0),
            (("set_polynomial", 1, 1, [1, 1, 1]), [3, 1, 1, 1, 1, 1, 1]),
            (("summary",), [4, 0, 3, 0, 0]),
            (("multiply", 1, 1, 0), [5, 1, 1, 2, 1, 3, 1, 2, 1, 1, 1]),
            (("summary",), [4, 5, 3, 0, 0]),
            (("derivative", 0, 1), [4, 2, 1, 6, 1, 6, 1, 4, 1]),
            (("squarefree", 0, 2), [3, 1, 1, 1, 1, 1, 1]),
            (("gcd", 0, 0, 3), [5, 1, 1, 2, 1, 3, 1, 2, 1, 1, 1]),
            (("summary",), [4, 5, 4, 3, 5]),
            (("multiply", 0, 3, 0), [9, 1, 1, 4, 1, 10, 1, 16, 1, 19, 1, 16, 1, 10, 1, 4, 1, 1, 1]),
            (("multiply", 0, 1, 0), -75),
            (("summary",), [4, 9, 4, 3, 5]),
            (("create",), 0),
            (("summary",), [4, 0, 0, 0, 0]),
        )


if __name__ == "__main__":
    unittest.main()
