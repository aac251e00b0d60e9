"""-75: results that are just not too large, and just too large, for multiply, derivative, squarefree and gcd."""

import unittest
from fractions import Fraction
from math import prod

from helper import CallTest, building, derived, monic, product, run, setting_call, shown

LIMIT = 10 ** 30

# products of numbers that set_polynomial takes as numerators
BELOW = (571258, 240719, 210943, 719449, 737189, 65)
EXACT = (1000000, 1000000, 1000000, 1000000, 1000000)
ABOVE = (200989, 998705, 867737, 487901, 72191, 163)

# products of numbers that set_polynomial takes as denominators
BOTTOMS_BELOW = (544, 553, 567, 572, 587, 418, 426, 431, 437, 628, 829)
BOTTOMS_EXACT = (1000,) * 10
BOTTOMS_ABOVE = (513, 593, 621, 646, 968, 413, 436, 447, 454, 456, 508)

# factors with different roots whose first coefficients have the product 10^30, the last ones 1
EXACT_FACTORS = ([-1000000, 1], [1000000, 1], [1000000, 0, 1], [-1000000, 0, 1], [1000000, 1, 1])


def turned(polynomial):
    """The coefficients in the other order."""
    return list(reversed(polynomial))


class LimitTest(CallTest):
    def expect_result(self, settings, call, result):
        """A call whose last number is its target, and what stands there then."""
        replies = run(("create",), *settings, call, ("get_polynomial", call[-1]))
        for setting, reply in zip(settings, replies[1:]):
            self.assertGreaterEqual(reply[0], 0, setting)
        with self.subTest(call=call, settings=settings):
            self.assertEqual(replies[-2:], [shown(result)] * 2)

    def expect_too_large(self, settings, calls):
        """Calls that are refused and leave every slot as it was; without their target -2 goes ahead."""
        gets = [("get_polynomial", slot) for slot in range(4)]
        replies = run(("create",), *settings, *gets)
        for setting, reply in zip(settings, replies[1:]):
            self.assertGreaterEqual(reply[0], 0, setting)
        before = replies[-4:]
        for call in calls:
            with self.subTest(call=call, settings=settings):
                self.assertEqual(run(("create",), *settings, call, *gets)[-5:], [[-75]] + before)
        all_replies = run(("create",), *settings, *calls, *gets)[1 + len(settings):]
        self.assertEqual(all_replies, [[-75]] * len(calls) + before)
        without_target = [call[:-1] + (missing,) for call in calls for missing in (4, 4294967295)]
        all_replies = run(("create",), *settings, *without_target, *gets)[1 + len(settings):]
        self.assertEqual(all_replies, [[-2]] * len(without_target) + before)

    def test_the_numbers(self):
        self.assertEqual([prod(BELOW), prod(EXACT), prod(ABOVE)], [LIMIT - 2510, LIMIT, LIMIT + 9645])
        self.assertTrue(LIMIT * 99999995 // 10 ** 8 < prod(BOTTOMS_BELOW) < LIMIT)
        self.assertEqual(prod(BOTTOMS_EXACT), LIMIT)
        self.assertTrue(LIMIT < prod(BOTTOMS_ABOVE) < LIMIT * 100000002 // 10 ** 8)


class DegreeTest(LimitTest):
    def test_multiply(self):
        for first in range(9):
            for second in range(9):
                settings = [setting_call(0, [1] * (first + 1)), setting_call(3, [1] * second + [-2]),
                            setting_call(1, [5])]
                if first + second <= 8:
                    result = product([[1] * (first + 1), [1] * second + [-2]])
                    for target in (0, 2, 3):
                        self.expect_result(settings, ("multiply", 0, 3, target), result)
                        self.expect_result(settings, ("multiply", 3, 0, target), result)
                else:
                    calls = [("multiply", 0, 3, target) for target in range(4)]
                    calls += [("multiply", 3, 0, target) for target in range(4)]
                    self.expect_too_large(settings, calls)

    def test_multiply_with_itself(self):
        for degree in range(9):
            polynomial = [0] * degree + [-1]
            settings = [setting_call(2, polynomial), setting_call(1, [5])]
            if degree <= 4:
                for target in range(4):
                    self.expect_result(settings, ("multiply", 2, 2, target), product([polynomial] * 2))
            else:
                self.expect_too_large(settings, [("multiply", 2, 2, target) for target in range(4)])

    def test_zero_times_the_greatest_degree(self):
        settings = [setting_call(0, [1] * 9)]
        for target in range(4):
            self.expect_result(settings, ("multiply", 0, 1, target), [])
            self.expect_result(settings, ("multiply", 1, 0, target), [])

    def test_the_others_keep_the_greatest_degree(self):
        polynomial = [-2] + [0] * 7 + [1]
        for target in range(4):
            self.expect_result([setting_call(0, polynomial)], ("squarefree", 0, target), polynomial)
            self.expect_result([setting_call(0, polynomial)], ("gcd", 0, 0, target), polynomial)
            self.expect_result([setting_call(0, polynomial)], ("derivative", 0, target), [0] * 7 + [8])


class MultiplyNumeratorTest(LimitTest):
    def settings(self, factors, shape):
        """All factors but the last one in slot 0, the last one in slot 1, something else in 2 and 3."""
        settings = building(0, 1, [[factors[0] * entry for entry in shape]] + [[factor] for factor in factors[1:-1]])
        return settings + [setting_call(1, [factors[-1]]), setting_call(2, [1, 2]), setting_call(3, [Fraction(-1, 3)])]

    def test_numerators(self):
        for shape in ([1], [-1], [0, 1], [0, -1], [1, 0, 0, 0, 0, 0, 0, 0, 1], [1, -1], [0, 0, -1, 0, 0, 0, 0, 1]):
            for factors in (BELOW, EXACT):
                result = [prod(factors) * entry for entry in shape]
                for target in range(4):
                    self.expect_result(self.settings(factors, shape), ("multiply", 0, 1, target), result)
                    self.expect_result(self.settings(factors, shape), ("multiply", 1, 0, target), result)
            for factors in (ABOVE, EXACT[:-1] + (1000, 1001), EXACT + (2,), EXACT + (1000000,)):
                calls = [("multiply", 0, 1, target) for target in range(4)]
                calls += [("multiply", 1, 0, target) for target in range(4)]
                self.expect_too_large(self.settings(factors, shape), calls)

    def test_one_numerator_among_small_ones(self):
        # in every place of the product
        for place in range(9):
            for factors in (BELOW, EXACT):
                shape = [1] * place + [factors[0]] + [1] * (8 - place)
                settings = building(0, 1, [shape] + [[Fraction(factor)] for factor in factors[1:]])
                result = [prod(factors[1:])] * place + [prod(factors)] + [prod(factors[1:])] * (8 - place)
                self.expect_result(settings[:-1], ("multiply", 0, 1, 0), result)
            shape = [1] * place + [ABOVE[0]] + [1] * (8 - place)
            settings = building(0, 1, [shape] + [[factor] for factor in ABOVE[1:]])
            self.expect_too_large(settings[:-1], [settings[-1]])

    def test_lowest_terms_count(self):
        # 10^30 * 1000000 / 1000 is too large, 10^30 * 999 / 1000 isn't
        settings = building(0, 1, [[factor] for factor in EXACT])
        self.expect_too_large(settings + [setting_call(1, [1000])], [("multiply", 0, 1, 2)])
        self.expect_result(settings + [setting_call(1, [Fraction(999, 1000)])], ("multiply", 0, 1, 2),
                           [LIMIT // 1000 * 999])
        self.expect_too_large(settings + [setting_call(1, [Fraction(1001, 1000)])], [("multiply", 0, 1, 2)])
        # 10^30 / 7 times 7 / 9
        settings = building(0, 1, [[factor] for factor in EXACT] + [[Fraction(1, 7)]])
        self.expect_result(settings + [setting_call(1, [Fraction(-7, 9)])], ("multiply", 0, 1, 1),
                           [Fraction(-LIMIT, 9)])
        self.expect_too_large(settings + [setting_call(1, [Fraction(-8, 9)])], [("multiply", 0, 1, 1)])

    def test_sums_of_large_numbers(self):
        # the outer coefficients can be stored, the middle one is twice as large
        half = [500000] + [1000000] * 4
        settings = building(0, 1, [[factor] for factor in half] + [[1, 1]])
        self.expect_result(settings, ("multiply", 0, 1, 0), [LIMIT // 2, LIMIT, LIMIT // 2])
        more = [500001] + [1000000] * 4
        settings = building(0, 1, [[factor] for factor in more] + [[1, 1]])
        self.expect_too_large(settings, [("multiply", 0, 1, target) for target in range(4)])
        # here they cancel
        settings = building(0, 1, [[factor] for factor in EXACT] + [[1, 1]]) + [setting_call(1, [1, -1])]
        self.expect_result(settings, ("multiply", 0, 1, 0), [LIMIT, 0, -LIMIT])

    def test_one_more_than_the_limit(self):
        # 10^30 + 1 has factors above 1000000, so that it comes about as a sum alone
        factors = [[20177, -161], [20204, 165], [1, 406160], [101], [3541], [9901], [27961]]
        before = product(factors)
        self.assertEqual(61 * before[1], LIMIT + 1)
        self.assertLess(61 * max(abs(before[place]) for place in (0, 2, 3)), LIMIT)
        settings = building(0, 1, factors)
        for last in (60, -60):
            result = [last * coefficient for coefficient in before]
            self.expect_result(settings + [setting_call(1, [last])], ("multiply", 0, 1, 2), result)
        for last in (61, -61):
            calls = [("multiply", 0, 1, target) for target in range(4)]
            self.expect_too_large(settings + [setting_call(1, [last])], calls)


class MultiplyDenominatorTest(LimitTest):
    def settings(self, bottoms, shape):
        factors = [[Fraction(entry, bottoms[0]) for entry in shape]] + [[Fraction(1, bottom)] for bottom in bottoms[1:]]
        settings = building(0, 1, factors)[:-1]
        return settings + [setting_call(2, [1, 2])]

    def test_denominators(self):
        for shape in ([1], [-1], [0, 1], [0, -1], [1, 0, 0, 0, 0, 0, 0, 0, 1], [1, -1], [0, 0, -1, 0, 0, 0, 0, 1]):
            for bottoms in (BOTTOMS_BELOW, BOTTOMS_EXACT):
                result = [Fraction(entry, prod(bottoms)) for entry in shape]
                for target in (0, 1, 3):
                    self.expect_result(self.settings(bottoms, shape), ("multiply", 0, 1, target), result)
                    self.expect_result(self.settings(bottoms, shape), ("multiply", 1, 0, target), result)
            for bottoms in (BOTTOMS_ABOVE, BOTTOMS_EXACT + (2,), BOTTOMS_EXACT + (1000,)):
                calls = [("multiply", 0, 1, target) for target in range(4)]
                calls += [("multiply", 1, 0, target) for target in range(4)]
                self.expect_too_large(self.settings(bottoms, shape), calls)

    def test_lowest_terms_count(self):
        # 3 / (4 * 10^30) has too large a denominator, 3 / 10^30 hasn't
        settings = building(0, 1, [[Fraction(1, bottom)] for bottom in BOTTOMS_EXACT])
        self.expect_too_large(settings + [setting_call(1, [Fraction(3, 4)])], [("multiply", 0, 1, 1)])
        self.expect_result(settings + [setting_call(1, [3])], ("multiply", 0, 1, 1), [Fraction(3, LIMIT)])
        self.expect_result(settings + [setting_call(1, [Fraction(4, 3)])], ("multiply", 0, 1, 1),
                           [Fraction(1, 3 * LIMIT // 4)])
        self.expect_result(settings + [setting_call(1, [1000000])], ("multiply", 0, 1, 1),
                           [Fraction(1, 10 ** 24)])

    def test_zero_has_the_denominator_1(self):
        settings = building(0, 1, [[Fraction(1, bottom)] for bottom in BOTTOMS_EXACT])
        settings += [setting_call(1, [0, 0, Fraction(5)])]
        self.expect_result(settings, ("multiply", 0, 1, 0), [0, 0, Fraction(5, LIMIT)])


class DerivativeTest(LimitTest):
    def settings(self, factors, power):
        """The product of the factors as the coefficient of a power in slot 0."""
        return building(0, 1, [[0] * power + [factors[0]]] + [[Fraction(factor)] for factor in factors[1:]])

    def test_numerators(self):
        for power in range(1, 9):
            for target in range(4):
                # a power of 10 above 10^29 * 10, parted by the power
                exact = EXACT[:-1] + (Fraction(1000, power), 1000)
                self.expect_result(self.settings(exact, power), ("derivative", 0, target), [0] * (power - 1) + [LIMIT])
                self.expect_result(self.settings((-1,) + exact, power), ("derivative", 0, target),
                                   [0] * (power - 1) + [-LIMIT])

    def test_numerators_that_are_too_large(self):
        for power in range(2, 9):
            for sign in (1, -1):
                settings = self.settings(EXACT + (sign,), power)
                self.expect_too_large(settings, [("derivative", 0, target) for target in range(4)])
                settings = self.settings(EXACT[:-1] + (1000000 // power + 1, sign), power)
                self.expect_too_large(settings, [("derivative", 0, target) for target in range(4)])

    def test_just_too_large(self):
        self.expect_result(self.settings((BELOW[-1] // 5,) + BELOW[:-1], 5), ("derivative", 0, 0),
                           [0, 0, 0, 0, LIMIT - 2510])
        # 998705 = 5 * 199741
        factors = (199741,) + ABOVE[:1] + ABOVE[2:]
        self.assertEqual(5 * prod(factors), LIMIT + 9645)
        self.expect_too_large(self.settings(factors, 5), [("derivative", 0, target) for target in range(4)])
        self.expect_result(self.settings(factors, 4), ("derivative", 0, 0), [0, 0, 0, 4 * prod(factors)])

    def test_lowest_terms_count(self):
        # the numerator is above 10^30 only as long as 2 and 1 / 2 are not brought together
        odd = prod((999999,) * 5)
        self.assertGreater(2 * odd, LIMIT)
        settings = self.settings((999999,) * 5 + (Fraction(1, 2),), 2)
        self.expect_result(settings, ("derivative", 0, 0), [0, odd])
        settings = self.settings((999999,) * 5 + (Fraction(1, 2),), 6)
        self.expect_too_large(settings, [("derivative", 0, target) for target in range(4)])

    def test_denominators(self):
        for bottoms in (BOTTOMS_BELOW, BOTTOMS_EXACT):
            settings = building(0, 1, [[0, 1, 1]] + [[Fraction(1, bottom)] for bottom in bottoms])
            bottom = prod(bottoms)
            for target in range(4):
                self.expect_result(settings, ("derivative", 0, target), [Fraction(1, bottom), Fraction(2, bottom)])

    def test_one_coefficient_of_many(self):
        # all the others stay within
        for place in range(2, 9):
            shape = [Fraction(1, 1000)] * 9
            shape[place] = Fraction(1000)
            settings = building(0, 1, [shape, [1000]] + [[factor] for factor in EXACT[:-1]])
            self.expect_too_large(settings, [("derivative", 0, target) for target in range(4)])
            shape[place] = Fraction(125)
            settings = building(0, 1, [shape, [1000]] + [[factor] for factor in EXACT[:-1]])
            result = derived([coefficient * 10 ** 27 for coefficient in shape])
            self.expect_result(settings, ("derivative", 0, 2), result)


class MonicTest(LimitTest):
    """squarefree and gcd: the last coefficient of their result is 1, whatever the first one becomes."""

    def linear(self, numbers):
        """Polynomials x - r with different roots r, which are the numbers up to the sign."""
        return [[number if place % 2 else -number, 1] for place, number in enumerate(numbers)]

    def part(self, factors, bottom):
        """The factors, the first one divided by a number, so that their product can be stored."""
        return [[Fraction(coefficient, bottom) for coefficient in factors[0]]] + factors[1:]

    def far(self):
        """Parts of polynomials x - r whose roots have a product far above 10^30."""
        return [[Fraction(coefficient, 1000) for coefficient in factor]
                for factor in self.linear((1000000, 1000000, 900000, 900000, 800000, 800000))]

    def with_others(self, factors):
        """The calls that store the product times x in slot 0, and times -3 in slot 1."""
        return building(0, 3, factors + [[0, 1]]) + building(1, 3, factors + [[-3]])

    def expect_monic(self, factors):
        """squarefree and gcd give the monic product of the factors."""
        result = monic(product(factors))
        for target in range(4):
            self.expect_result(building(0, 3, factors), ("squarefree", 0, target), result)
            self.expect_result(building(0, 3, factors), ("gcd", 0, 0, target), result)
            if len(result) < 9:
                self.expect_result(self.with_others(factors), ("gcd", 0, 1, target), result)
                self.expect_result(self.with_others(factors), ("gcd", 1, 0, target), result)

    def expect_monic_too_large(self, factors):
        """squarefree and gcd refuse the monic product of the factors."""
        settings = building(0, 3, factors) + [setting_call(1, [1, 1]), setting_call(3, [3])]
        calls = [("squarefree", 0, target) for target in range(4)]
        calls += [("gcd", 0, 0, target) for target in range(4)]
        self.expect_too_large(settings, calls)
        calls = [("gcd", 0, 1, target) for target in range(4)]
        calls += [("gcd", 1, 0, target) for target in range(4)]
        self.expect_too_large(self.with_others(factors), calls)

    def test_numerators(self):
        self.expect_monic(self.part(self.linear(BELOW), 65))
        self.expect_monic([list(factor) for factor in EXACT_FACTORS])
        self.expect_monic_too_large(self.part(self.linear(ABOVE), 163))
        self.expect_monic_too_large(self.far())

    def test_denominators(self):
        self.expect_monic(self.part([turned(factor) for factor in self.linear(BELOW)], 65))
        self.expect_monic([turned(factor) for factor in EXACT_FACTORS])
        self.expect_monic_too_large(self.part([turned(factor) for factor in self.linear(ABOVE)], 163))
        self.expect_monic_too_large([turned(factor) for factor in self.far()])

    def test_negative_last_coefficients(self):
        for polynomials, bottom in ((self.linear(ABOVE), 163), ([turned(f) for f in self.linear(ABOVE)], 163)):
            polynomials[0] = [-coefficient for coefficient in polynomials[0]]
            self.expect_monic_too_large(self.part(polynomials, bottom))
        for polynomials, bottom in ((self.linear(BELOW), 65), ([turned(f) for f in self.linear(BELOW)], 65)):
            polynomials[0] = [-coefficient for coefficient in polynomials[0]]
            self.expect_monic(self.part(polynomials, bottom))

    def test_multiple_roots_do_not_count(self):
        # the monic form of the source itself, (x + 10^6)^6, is too large
        settings = building(0, 3, [[1000, Fraction(1, 1000)]] * 6)
        self.expect_too_large(settings, [("gcd", 0, 0, target) for target in range(4)])
        for target in range(4):
            self.expect_result(settings, ("squarefree", 0, target), [1000000, 1])
        settings = building(0, 3, [[Fraction(1, 1000), 1000]] * 6)
        self.expect_too_large(settings, [("gcd", 0, 0, target) for target in range(4)])
        for target in range(4):
            self.expect_result(settings, ("squarefree", 0, target), [Fraction(1, 1000000), 1])

    def test_common_divisor_that_is_small(self):
        # both polynomials have too large a monic form, their common divisor hasn't
        first = building(0, 3, self.far() + [[1, 3]])
        second = building(1, 3, [turned(factor) for factor in self.far()] + [[1, 3]])
        self.expect_too_large(first + second, [("gcd", 0, 0, 2), ("gcd", 1, 1, 2), ("squarefree", 1, 1)])
        for target in range(4):
            self.expect_result(first + second, ("gcd", 0, 1, target), [Fraction(1, 3), 1])
            self.expect_result(first + second, ("gcd", 1, 0, target), [Fraction(1, 3), 1])


if __name__ == "__main__":
    unittest.main()
