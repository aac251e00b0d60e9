"""create, set_polynomial, get_polynomial and degree."""

import unittest
from fractions import Fraction

from helper import CallTest, shown


def stored(denominator, coefficients):
    """How set_polynomial has to answer."""
    left = list(coefficients)
    while left and left[-1] == 0:
        left.pop()
    return shown([Fraction(number, denominator) for number in left])


class StoringTest(CallTest):
    def expect_stored(self, denominator, coefficients, answer):
        self.assertEqual(stored(denominator, coefficients), answer)
        size = answer[0]
        self.expect(
            (("create",), 0),
            (("set_polynomial", 2, denominator, coefficients), answer),
            (("get_polynomial", 2), answer),
            (("degree", 2), size - 1 if size else -33),
            (("get_polynomial", 1), 0),
            (("get_polynomial", 3), 0),
        )

    def test_ordinary(self):
        self.expect_stored(1, [-2, 0, 1], [3, -2, 1, 0, 1, 1, 1])
        self.expect_stored(7, [1, -2], [2, 1, 7, -2, 7])
        self.expect_stored(1, [5], [1, 5, 1])

    def test_lowest_terms(self):
        self.expect_stored(6, [1, 2, 3, 4, 5, 6], [6, 1, 6, 1, 3, 1, 2, 2, 3, 5, 6, 1, 1])
        self.expect_stored(6, [-1, -2, -3, -4, 0, -6], [6, -1, 6, -1, 3, -1, 2, -2, 3, 0, 1, -1, 1])
        self.expect_stored(1000, [1000000, -1000000, 999999, 8], [4, 1000, 1, -1000, 1, 999999, 1000, 1, 125])

    def test_zeros_at_the_end(self):
        self.expect_stored(4, [2, 0, 0], [1, 1, 2])
        self.expect_stored(1, [0, 0, 1, 0, 0, 0, 0, 0, 0], [3, 0, 1, 0, 1, 1, 1])
        self.expect_stored(1, [0, 0, 0, 0, 0, 0, 0, 0, 1], [9] + [0, 1] * 8 + [1, 1])

    def test_zero_polynomial(self):
        for count in range(10):
            self.expect_stored(1000, [0] * count, [0])

    def test_every_size(self):
        for count in range(1, 10):
            for denominator in (1, 2, 12, 999, 1000):
                coefficients = [6 * place - 25 for place in range(count)]
                self.expect_stored(denominator, coefficients, stored(denominator, coefficients))

    def test_edges_of_the_ranges(self):
        for denominator in (1, 1000):
            for number in (1000000, -1000000, 999999, -999999):
                coefficients = [number] * 9
                self.expect_stored(denominator, coefficients, stored(denominator, coefficients))

    def test_every_slot_is_its_own(self):
        self.expect(
            (("create",), 0),
            *[(("set_polynomial", slot, 1, [slot, 1]), [2, slot, 1, 1, 1]) for slot in range(4)],
            *[(("get_polynomial", slot), [2, slot, 1, 1, 1]) for slot in range(4)],
            (("set_polynomial", 1, 3, [1]), [1, 1, 3]),
            (("get_polynomial", 0), [2, 0, 1, 1, 1]),
            (("get_polynomial", 1), [1, 1, 3]),
            (("get_polynomial", 2), [2, 2, 1, 1, 1]),
            (("get_polynomial", 3), [2, 3, 1, 1, 1]),
        )

    def test_a_zero_polynomial_takes_the_place_of_another(self):
        for coefficients in ([], [0], [0] * 9):
            self.expect(
                (("create",), 0),
                (("set_polynomial", 3, 1, [1, 1]), [2, 1, 1, 1, 1]),
                (("degree", 3), 1),
                (("set_polynomial", 3, 9, coefficients), 0),
                (("get_polynomial", 3), 0),
                (("degree", 3), -33),
            )


class CreateTest(CallTest):
    def test_all_slots_are_zero(self):
        self.expect((("create",), 0), *[(("get_polynomial", slot), 0) for slot in range(4)])

    def test_create_again(self):
        self.expect(
            (("create",), 0),
            (("create",), 0),
            *[(("set_polynomial", slot, 1, [1, 2, 3]), [3, 1, 1, 2, 1, 3, 1]) for slot in range(4)],
            (("create",), 0),
            *[(("get_polynomial", slot), 0) for slot in range(4)],
            *[(("degree", slot), -33) for slot in range(4)],
            (("set_polynomial", 1, 1, [4]), [1, 4, 1]),
            (("get_polynomial", 0), 0),
            (("get_polynomial", 1), [1, 4, 1]),
        )

    def test_create_behind_refused_calls(self):
        self.expect(
            (("degree", 0), -11),
            (("set_polynomial", 0, 1, [1]), -11),
            (("create",), 0),
            (("degree", 0), -33),
            (("set_polynomial", 0, 1, [1]), [1, 1, 1]),
            (("degree", 0), 0),
        )


if __name__ == "__main__":
    unittest.main()
