"""root_floor, root_bound and largest_roots."""

import random
import unittest
from fractions import Fraction
from math import ceil, floor, isqrt

from helper import CallTest, ask, fits, from_roots, product, run, setting_call

BITS = range(31)


def floor_of(root, bits):
    """The floor of a rational root with bits."""
    return floor(Fraction(root) * 2 ** bits)


def square_root_floors(number, bits):
    """The floors of both square roots of a whole number that is no square, the one below 0 first."""
    positive = isqrt(number * 4 ** bits)
    return [-positive - 1, positive]


def cube_root_floor(number, bits):
    """The floor of the cube root of a whole number."""
    wanted = number * 8 ** bits
    low, high = -abs(wanted) - 1, abs(wanted) + 1
    while high - low > 1:
        middle = (low + high) // 2
        if middle ** 3 <= wanted:
            low = middle
        else:
            high = middle
    return low


class RootFloorTest(CallTest):
    def expect_floors(self, polynomial, floors, bits):
        """The floors of all roots with bits, in ascending order, and -34 behind them."""
        rows = [(("root_floor", 0, k, bits), [0, number]) for k, number in enumerate(floors)]
        rows += [(("root_floor", 0, k, bits), -34) for k in (len(floors), len(floors) + 1, 8, 9, 4294967295)]
        rows.append((("largest_roots", bits), [1, 0, floors[-1]] if floors else 0))
        # a multiple of a polynomial has the same roots
        for scale in (1, -1, Fraction(-1, 7)):
            scaled = [scale * coefficient for coefficient in polynomial]
            if fits(scaled):
                self.expect_of(scaled, *rows)

    def expect_rational(self, roots, lead=1, others=()):
        """A product with these roots; the others are polynomials without a real root."""
        polynomial = product([from_roots(roots, lead)] + [list(other) for other in others])
        self.assertTrue(fits(polynomial), roots)
        for bits in BITS:
            self.expect_floors(polynomial, [floor_of(root, bits) for root in sorted(roots)], bits)

    def test_whole_roots(self):
        for root in (0, 1, -1, 2, -2, 3, -3, 1000000, -1000000, 999999, 524288, -524288):
            self.expect_rational([root])
        self.expect_rational([-2, -1, 0, 1, 2])
        self.expect_rational([1, 2, 3, 4, 5, 6, 7, 8])
        self.expect_rational([-3, -2, -1, 0, 1, 2, 3, 4])
        self.expect_rational([-1000, 1000])

    def test_fractions_of_powers_of_two(self):
        for bottom in (2, 4, 8, 64, 512):
            self.expect_rational([Fraction(1, bottom)], bottom)
            self.expect_rational([Fraction(-1, bottom)], -bottom)
            self.expect_rational([Fraction(3, bottom), Fraction(-5, bottom)], bottom * bottom)
        self.expect_rational([Fraction(-7, 4), Fraction(-1, 2), Fraction(1, 4), Fraction(9, 8)], 256)
        self.expect_rational([Fraction(1, 1024)], 1024)
        self.expect_rational([Fraction(-1, 524288)], 524288)
        self.expect_rational([Fraction(524287, 524288)], 524288)
        self.expect_rational([Fraction(-524289, 524288)], 524288)

    def test_other_rational_roots(self):
        for root in (Fraction(1, 3), Fraction(-1, 3), Fraction(2, 3), Fraction(-22, 7), Fraction(999999, 1000000),
                     Fraction(-999999, 1000000), Fraction(1, 1000000), Fraction(-1, 1000000), Fraction(1000000, 999999),
                     Fraction(-1000000, 3)):
            self.expect_rational([root], root.denominator)
        self.expect_rational([Fraction(1, 3), Fraction(-1, 3), Fraction(1, 2), Fraction(-1, 2)], 36)
        self.expect_rational([Fraction(1, 5), Fraction(2, 5), Fraction(3, 5), Fraction(4, 5)], 625)

    def test_multiple_roots(self):
        self.expect_rational([0, 0])
        self.expect_rational([0] * 8)
        self.expect_rational([-1] * 8)
        self.expect_rational([1, 1, -1])
        self.expect_rational([-1, -1, 1])
        self.expect_rational([2, 2, 2, -2, -2, 0])
        self.expect_rational([Fraction(1, 3), Fraction(1, 3), Fraction(-1, 2), Fraction(-1, 2)], 36)
        self.expect_rational([-2, 1, 1, 1, 3, 3, 4, 5])
        self.expect_rational([Fraction(5, 4)] * 3 + [Fraction(5, 4) + 1], 256)

    def test_beside_pairs_of_complex_roots(self):
        self.expect_rational([3], 1, [[1, 0, 1]])
        self.expect_rational([Fraction(-1, 2), 7, 7], 2, [[1, 1, 1], [1, 1, 1]])
        self.expect_rational([0], -1, [[1, 0, 1]] * 3)
        self.expect_rational([Fraction(-2, 3), 0, 5], 3, [[5, -4, 1]])

    def test_without_a_real_root(self):
        for polynomial in ([1], [-7], [Fraction(1, 3)], [1, 0, 1], [1, 1, 1], [1, 0, 0, 0, 1], [2] + [0] * 7 + [1],
                           product([[1, 0, 1]] * 4)):
            for bits in (0, 1, 15, 30):
                self.expect_floors(polynomial, [], bits)

    def test_square_roots(self):
        for number in (2, 3, 5, 7, 10, 99, 101, 999999, 999998):
            for bits in BITS:
                self.expect_floors([-number, 0, 1], square_root_floors(number, bits), bits)

    def test_multiple_square_roots(self):
        for bits in BITS:
            low, high = square_root_floors(2, bits)
            self.expect_floors(product([[-2, 0, 1]] * 2), [low, low, high, high], bits)
            self.expect_floors(product([[-2, 0, 1]] * 4), [low] * 4 + [high] * 4, bits)
            lower, higher = square_root_floors(3, bits)
            self.expect_floors(product([[-2, 0, 1]] * 3 + [[-3, 0, 1]]), [lower] + [low] * 3 + [high] * 3 + [higher],
                               bits)

    def test_cube_roots(self):
        for number in (2, -2, 3, -9, 1000, 1001, -1001, 999999, -999999):
            for bits in BITS:
                self.expect_floors([-number, 0, 0, 1], [cube_root_floor(number, bits)], bits)

    def test_roots_that_lie_near_one_another(self):
        # sqrt(2) and neighbours of it on both sides
        for near in (Fraction(1393, 985), Fraction(577, 408), Fraction(3363, 2378)):
            polynomial = product([[-2, 0, 1], [-near.numerator, near.denominator]])
            for bits in BITS:
                low, high = square_root_floors(2, bits)
                self.expect_floors(polynomial, [low] + sorted([high, floor_of(near, bits)]), bits)
        pair = [Fraction(999, 1000), Fraction(998, 999)]
        for bits in BITS:
            self.expect_floors(from_roots(pair, 999000), [floor_of(root, bits) for root in sorted(pair)], bits)

    def test_large_and_small_roots(self):
        for bits in (0, 1, 2, 29, 30):
            self.expect_floors([-1000000, 0, 1], [-1000 * 2 ** bits, 1000 * 2 ** bits], bits)
            self.expect_floors([-1, 0, 1000000], [floor_of(Fraction(-1, 1000), bits), floor_of(Fraction(1, 1000), bits)],
                               bits)
            self.expect_floors([1, -1000000], [floor_of(Fraction(1, 1000000), bits)], bits)
            self.expect_floors([-1000000, 0, 0, 0, 0, 0, 0, 0, 1], self.eighth_roots(1000000, bits), bits)

    def eighth_roots(self, number, bits):
        root = isqrt(isqrt(isqrt(number * 2 ** (8 * bits))))
        return [-root if root ** 8 == number * 2 ** (8 * bits) else -root - 1, root]

    def test_large_coefficients(self):
        pool = random.Random(11)
        for degree in (7, 8):
            for times in range(6):
                polynomial = [pool.randint(-1000000, 1000000) for power in range(degree)] + [pool.randint(1, 1000000)]
                self.check_signs(polynomial)
                self.check_signs([-coefficient for coefficient in polynomial])

    def check_signs(self, polynomial):
        """The value changes its sign or is 0 between a floor and the number above it."""
        count = ask(polynomial, ("count_roots", 0))[0][0]
        for bits in (0, 7, 30):
            replies = ask(polynomial, *[("root_floor", 0, k, bits) for k in range(count)])
            floors = [number for code, number in replies]
            self.assertEqual(floors, sorted(floors))
            for number in set(floors):
                low = self.scaled_value(polynomial, number, 2 ** bits)
                high = self.scaled_value(polynomial, number + 1, 2 ** bits)
                odd = floors.count(number) % 2 == 1
                self.assertTrue(low == 0 or (low * high < 0) == odd, (polynomial, bits, number))

    def scaled_value(self, polynomial, numerator, denominator):
        degree = len(polynomial) - 1
        return sum(c * numerator ** power * denominator ** (degree - power) for power, c in enumerate(polynomial))

    def test_each_slot_has_its_own_roots(self):
        rows = [(("create",), 0)]
        for slot in range(4):
            rows.append((("set_polynomial", slot, 1, [-slot, 1]), [2, -slot, 1, 1, 1]))
        for slot in range(4):
            rows.append((("root_floor", slot, 0, 3), [0, 8 * slot]))
        self.expect(*rows)

    def test_stored_products(self):
        # the root has a denominator that no coefficient of set_polynomial reaches
        self.expect(
            (("create",), 0),
            (("set_polynomial", 0, 1, [1000000]), [1, 1000000, 1]),
            (("set_polynomial", 1, 1, [-1, 1000000]), [2, -1, 1, 1000000, 1]),
            (("multiply", 0, 1, 1), [2, -1000000, 1, 1000000000000, 1]),
            (("root_floor", 1, 0, 30), [0, 1073]),
            (("set_polynomial", 2, 1000, [1, 1]), [2, 1, 1000, 1, 1000]),
            (("multiply", 1, 2, 2), [3, -1000, 1, 999999000, 1, 1000000000, 1]),
            (("root_floor", 2, 0, 30), [0, -1073741824]),
            (("root_floor", 2, 1, 30), [0, 1073]),
            (("root_floor", 2, 2, 30), -34),
        )


class RootBoundTest(CallTest):
    def bound(self, polynomial):
        return 1 + ceil(max(abs(Fraction(coefficient) / polynomial[-1]) for coefficient in polynomial))

    def test_ordinary(self):
        for polynomial, bound in (
            ([-2, 0, 1], 3), ([2, 0, 1], 3), ([0, 1], 2), ([0, -1], 2), ([1, 1], 2), ([1, 2], 2), ([1, -2], 2),
            ([3, 2], 3), ([-3, 2], 3), ([4, 2], 3), ([5, 2], 4), ([5, -2], 4), ([-5, -2], 4), ([-4, -2], 3),
            ([Fraction(1, 2), Fraction(1, 3)], 3), ([Fraction(1, 2), Fraction(-1, 4)], 3), ([1, 9, -1, 4], 4),
            ([1000000, 1], 1000001), ([1, 1000000], 2), ([0, 0, 0, 0, 0, 0, 0, 0, 3], 2), ([7] * 9, 2),
            ([0, 1000000, 0, 0, 0, 0, 0, 0, -3], 333335), ([8, 0, 0, 0, 0, 0, 0, 0, -3], 4),
        ):
            self.assertEqual(self.bound(polynomial), bound)
            self.expect_of(polynomial, (("root_bound", 0), bound))

    def test_constants(self):
        for constant in (1, -1, 1000000, Fraction(-1, 1000), Fraction(2, 3)):
            self.expect_of([constant], (("root_bound", 0), 2))

    def test_every_degree(self):
        pool = random.Random(12)
        for degree in range(9):
            for times in range(20):
                bottom = pool.randint(1, 1000)
                polynomial = [Fraction(pool.randint(-1000, 1000), bottom) for power in range(degree)]
                polynomial.append(Fraction(pool.choice((-3, -2, -1, 1, 2, 5, 60)), bottom))
                self.expect_of(polynomial, (("root_bound", 0), self.bound(polynomial)))

    def test_large_quotients(self):
        self.expect(
            (("create",), 0),
            (("set_polynomial", 0, 1000, [1000000, 1]), [2, 1000, 1, 1, 1000]),
            (("multiply", 0, 0, 0), [3, 1000000, 1, 2, 1, 1, 1000000]),
            (("multiply", 0, 0, 0), [5, 10 ** 12, 1, 4000000, 1, 6, 1, 1, 250000, 1, 10 ** 12]),
            (("root_bound", 0), 10 ** 24 + 1),
            (("root_floor", 0, 0, 0), [0, -1000000]),
            (("root_floor", 0, 3, 30), [0, -1000000 * 2 ** 30]),
            (("root_floor", 0, 4, 30), -34),
            (("multiply", 0, 0, 0), [9, 10 ** 24, 1, 8 * 10 ** 18, 1, 28 * 10 ** 12, 1, 56000000, 1, 70, 1, 7, 125000,
                                     7, 250000000000, 1, 125000000000000000, 1, 10 ** 24]),
            (("root_bound", 0), 10 ** 48 + 1),
            (("root_floor", 0, 7, 30), [0, -1000000 * 2 ** 30]),
            (("largest_roots", 1), [1, 0, -2000000]),
        )

    def test_roots_lie_within(self):
        pool = random.Random(13)
        for times in range(40):
            polynomial = [pool.randint(-9, 9) for power in range(pool.randint(1, 8))] + [pool.choice((-2, -1, 1, 3))]
            bound = ask(polynomial, ("root_bound", 0))[0][0]
            inside = ask(polynomial, ("count_roots_between", 0, -bound, 1, bound, 1), ("count_roots", 0))
            self.assertEqual(inside[0][1], inside[1][0])


class LargestRootsTest(CallTest):
    def test_no_polynomial(self):
        for bits in (0, 1, 30):
            self.expect((("create",), 0), (("largest_roots", bits), 0))

    def test_no_root(self):
        self.expect(
            (("create",), 0),
            (("set_polynomial", 1, 1, [5]), [1, 5, 1]),
            (("set_polynomial", 2, 1, [1, 0, 1]), [3, 1, 1, 0, 1, 1, 1]),
            (("largest_roots", 0), 0),
            (("largest_roots", 30), 0),
        )

    def test_each_subset_of_slots(self):
        kinds = (([], None), ([-3], None), ([1, 1, 1], None), ([-2, 0, 1], 1448), ([1, 2, 1], -1024), ([0, 3], 0),
                 ([-1, 3], 341), ([1, 3], -342))
        for first in kinds:
            for second in kinds:
                chosen = (first, second, kinds[3], first)
                answer = []
                for slot, (polynomial, number) in enumerate(chosen):
                    if number is not None:
                        answer += [slot, number]
                settings = [setting_call(slot, polynomial) for slot, (polynomial, number) in enumerate(chosen)]
                replies = run(("create",), *settings, ("largest_roots", 10))
                self.assertEqual(replies[-1], [len(answer) // 2] + answer)

    def test_the_greatest_of_many(self):
        self.expect(
            (("create",), 0),
            (("set_polynomial", 3, 1, [0, -6, 11, -6, 1]), [5, 0, 1, -6, 1, 11, 1, -6, 1, 1, 1]),
            (("set_polynomial", 1, 1, [0, 6, 11, 6, 1]), [5, 0, 1, 6, 1, 11, 1, 6, 1, 1, 1]),
            (("set_polynomial", 0, 1, [4, -4, 1]), [3, 4, 1, -4, 1, 1, 1]),
            (("set_polynomial", 2, 1, [1, 2, 1]), [3, 1, 1, 2, 1, 1, 1]),
            (("largest_roots", 0), [4, 0, 2, 1, 0, 2, -1, 3, 3]),
            (("largest_roots", 2), [4, 0, 8, 1, 0, 2, -4, 3, 12]),
            (("largest_roots", 30), [4, 0, 2 ** 31, 1, 0, 2, -2 ** 30, 3, 3 * 2 ** 30]),
        )

    def test_it_changes_nothing(self):
        polynomials = [[-2, 0, 1], [3], [], [1, 1]]
        settings = [setting_call(slot, polynomial) for slot, polynomial in enumerate(polynomials)]
        gets = [("get_polynomial", slot) for slot in range(4)]
        replies = run(("create",), *settings, *gets, ("largest_roots", 9), ("root_floor", 0, 0, 9), ("root_bound", 3),
                      *gets)
        self.assertEqual(replies[5:9], replies[-4:])


if __name__ == "__main__":
    unittest.main()
