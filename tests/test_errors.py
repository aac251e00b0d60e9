"""Each error of the calls but -75, their order, and that they change no slot."""

import unittest

from helper import CallTest

NO_SLOTS = (4, 5, 7, 255, 256, 65536, 2147483648, 4294967292, 4294967295)

# behind the slot: arguments that the document refuses, then such that it takes
BAD_ARGUMENTS = (
    (1000001, 1), (-1000001, 1), (2147483647, 1), (-2147483648, 1), (1000001, 1000), (-1000001, 1000),
    (0, 0), (1, 0), (-1, 0), (1000000, 0), (0, 1001), (1, 1001), (-1, 1001), (1000000, 1001),
    (2002, 1001), (2000000, 2000), (0, 4294967295), (-1, 4294967295), (1000001, 0), (-2147483648, 4294967295),
)
GOOD_ARGUMENTS = (
    (1000000, 1), (-1000000, 1), (999999, 1), (0, 1), (0, 1000), (1, 1000), (-1, 1000), (1000000, 1000),
    (-1000000, 1000), (999, 999),
)
BAD_SETTINGS = (
    (0, []), (0, [1]), (1001, []), (1001, [1]), (4294967295, [1]),
    (1, [0] * 10), (1, [1] * 10), (1, [1] * 9 + [0]), (1, [1] * 11), (1, [1] * 60), (1, [0] * 60),
    (1, [1000001]), (1, [-1000001]), (1, [2147483647]), (1, [-2147483648]),
    (1000, [1000001]), (1, [1000001, 0]), (1, [0, -1000001, 1]), (1, [0] * 8 + [1000001]),
    (1, [0] * 8 + [-1000001]), (1, [1] * 7 + [1000001, 1]),
    (0, [1000001] * 10), (1001, [-1000001] * 60),
)
BAD_INTERVALS = (
    (0, 1, 0, 1), (1, 2, 1, 2), (1, 2, 2, 4), (2, 4, 1, 2), (-1, 2, -500, 1000), (0, 7, 0, 9),
    (1, 1, 0, 1), (1, 2, 1, 3), (-1, 3, -1, 2), (1000, 1000, 999, 1000), (1000000, 1, 999999, 1),
    (1000000, 1, -1000000, 1), (-999999, 1, -1000000, 1), (998, 999, 997, 998), (1000000, 1, 1000000, 1),
    (-1000000, 1, -1000000, 1), (1, 1, -1, 1), (3, 2, 1, 1),
)
PLAIN_CALLS = ("degree", "count_distinct_roots", "count_roots", "is_real_rooted", "root_bound", "hermite_inertia",
               "first_newton_violation")
POINT_CALLS = ("count_roots_up_to", "multiplicity")
BAD_BITS = (31, 32, 63, 64, 255, 256, 2147483648, 4294967295)
BAD_POWERS = (13, 14, 15, 16, 255, 256, 2147483648, 4294967295)
LARGE_PLACES = (2, 3, 8, 9, 255, 256, 65536, 2147483648, 4294967295)

SETTINGS = [
    (("create",), 0),
    (("set_polynomial", 0, 1, [-2, 0, 1]), [3, -2, 1, 0, 1, 1, 1]),
    (("set_polynomial", 1, 2, [3]), [1, 3, 2]),
    (("set_polynomial", 2, 1, [0, 1]), [2, 0, 1, 1, 1]),
    (("set_polynomial", 3, 1, [-1, -1]), [2, -1, 1, -1, 1]),
]
SLOTS_AS_SET = [(("get_polynomial", call[1]), answer) for call, answer in SETTINGS[1:]]
MOST_ROWS = 100


def bad_ends():
    """Arguments of count_roots_between with a low or a high end that is outside its range."""
    ends = [bad + (1000000, 1) for bad in BAD_ARGUMENTS]
    ends += [(-1000000, 1) + bad for bad in BAD_ARGUMENTS]
    ends += [bad + bad for bad in BAD_ARGUMENTS]
    # both at once: an end outside its range, and high <= low
    ends += [(0, 1, -1000001, 1), (1000001, 1, 0, 1), (5, 1, 1, 0), (1, 0, -5, 1), (1, 1001, 1, 1001)]
    return ends


class ErrorsTest(CallTest):
    def expect_refused(self, calls, code, settings=SETTINGS, left=SLOTS_AS_SET):
        """Every call is refused with the code and leaves all slots as they were."""
        for start in range(0, len(calls), MOST_ROWS):
            rows = [(call, code) for call in calls[start:start + MOST_ROWS]]
            self.expect(*settings, *rows, *left)
        for call in calls:
            self.expect(*settings, (call, code), *left)

    def expect_refused_on_zero(self, calls, code):
        zeros = [(("get_polynomial", slot), 0) for slot in range(4)]
        self.expect_refused(calls, code, settings=SETTINGS[:1], left=zeros)

    def test_no_such_slot(self):
        for slot in NO_SLOTS:
            calls = [("set_polynomial", slot, 1, []), ("set_polynomial", slot, 1, [1, 2]), ("get_polynomial", slot)]
            calls += [(name, slot) for name in PLAIN_CALLS]
            calls += [("evaluate", slot, 0, 1), ("count_roots_between", slot, 0, 1, 1, 1)]
            calls += [(name, slot, 0, 1) for name in POINT_CALLS]
            self.expect_refused(calls, -2)
            self.expect_refused_on_zero(calls, -2)

    def test_no_such_slot_goes_ahead_of_ranges(self):
        for slot in (4, 4294967295):
            calls = [("set_polynomial", slot, *bad) for bad in BAD_SETTINGS]
            for name in ("evaluate",) + POINT_CALLS:
                calls += [(name, slot, *bad) for bad in BAD_ARGUMENTS]
            calls += [("count_roots_between", slot, *bad) for bad in bad_ends() + list(BAD_INTERVALS)]
            self.expect_refused(calls, -2)
            self.expect_refused_on_zero(calls, -2)

    def test_no_such_slot_in_each_place(self):
        for missing in NO_SLOTS:
            calls = [("root_floor", missing, 0, 0), ("power_sums", missing, 0)]
            for slot in range(4):
                calls += [(name, missing, slot) for name in ("squarefree", "derivative")]
                calls += [(name, slot, missing) for name in ("squarefree", "derivative")]
                for name in ("gcd", "multiply"):
                    calls += [(name, missing, slot, 1), (name, slot, missing, 1), (name, slot, 1, missing)]
                    calls += [(name, missing, missing, slot), (name, missing, slot, missing)]
                    calls += [(name, slot, missing, missing)]
            calls += [(name, missing, missing) for name in ("squarefree", "derivative")]
            calls += [(name, missing, missing, missing) for name in ("gcd", "multiply")]
            self.expect_refused(calls, -2)
            # with the zero polynomial in every slot that there is, -33 would hold, too
            self.expect_refused_on_zero(calls, -2)

    def test_no_such_slot_goes_ahead_of_bits_and_powers(self):
        calls = []
        for slot in (4, 4294967295):
            calls += [("root_floor", slot, k, bits) for k in (0, 2, 4294967295) for bits in BAD_BITS + (0, 30)]
            calls += [("power_sums", slot, power) for power in BAD_POWERS]
        self.expect_refused(calls, -2)
        self.expect_refused_on_zero(calls, -2)

    def test_no_such_slot_goes_ahead_of_too_large(self):
        square = [("create",), ("set_polynomial", 0, 1, [1] * 6), ("set_polynomial", 3, 1, [5])]
        calls = [("multiply", 0, 0, 4), ("multiply", 0, 4, 3), ("multiply", 4, 0, 3), ("gcd", 0, 0, 4)]
        self.expect_refused(
            calls, -2,
            settings=[(square[0], 0), (square[1], [6] + [1, 1] * 6), (square[2], [1, 5, 1])],
            left=[(("get_polynomial", 0), [6] + [1, 1] * 6), (("get_polynomial", 3), [1, 5, 1])],
        )

    def test_zero_polynomial(self):
        calls = []
        for slot in range(4):
            calls += [(name, slot) for name in PLAIN_CALLS]
            calls += [(name, slot, 0, 1) for name in POINT_CALLS]
            calls += [("count_roots_between", slot, 0, 1, 1, 1)]
            calls += [("root_floor", slot, k, bits) for k in (0, 4294967295) for bits in (0, 30)]
            calls += [("power_sums", slot, power) for power in (0, 1, 12)]
            calls += [("squarefree", slot, target) for target in range(4)]
            calls += [("gcd", slot, second, target) for second in range(4) for target in range(4)]
        self.expect_refused_on_zero(calls, -33)

    def test_zero_polynomial_goes_ahead_of_bits_and_powers(self):
        calls = [("root_floor", 3, k, bits) for k in (0, 1, 4294967295) for bits in BAD_BITS]
        calls += [("power_sums", 3, power) for power in BAD_POWERS]
        self.expect_refused_on_zero(calls, -33)

    def test_one_of_two_polynomials_is_zero(self):
        for zero in range(4):
            settings = list(SETTINGS)
            settings[zero + 1] = (("set_polynomial", zero, 7, [0, 0]), 0)
            left = list(SLOTS_AS_SET)
            left[zero] = (("get_polynomial", zero), 0)
            others = [slot for slot in range(4) if slot != zero]
            calls = [("squarefree", zero, target) for target in range(4)]
            calls += [("gcd", zero, other, target) for other in others for target in range(4)]
            calls += [("gcd", other, zero, target) for other in others for target in range(4)]
            calls += [("root_floor", zero, 0, 31), ("power_sums", zero, 13)]
            calls += [(name, zero) for name in PLAIN_CALLS]
            self.expect_refused(calls, -33, settings=settings, left=left)

    def test_bits_outside_their_range(self):
        calls = [("largest_roots", bits) for bits in BAD_BITS]
        self.expect_refused_on_zero(calls, -22)
        for slot in range(4):
            calls += [("root_floor", slot, 0, bits) for bits in BAD_BITS]
        self.expect_refused(calls, -22)

    def test_bits_go_ahead_of_the_root(self):
        calls = []
        for slot in range(4):
            calls += [("root_floor", slot, k, bits) for k in LARGE_PLACES for bits in BAD_BITS]
        self.expect_refused(calls, -22)

    def test_max_power_outside_its_range(self):
        self.expect_refused([("power_sums", slot, power) for slot in range(4) for power in BAD_POWERS], -22)

    def test_no_such_root(self):
        calls = []
        for slot, roots in ((0, 2), (1, 0), (2, 1), (3, 1)):
            for k in (roots,) + LARGE_PLACES:
                calls += [("root_floor", slot, k, bits) for bits in (0, 1, 29, 30)]
        self.expect_refused(calls, -34)
        self.expect_refused(calls, -34)

    def test_zero_polynomial_goes_ahead_of_ranges(self):
        calls = []
        for name in POINT_CALLS:
            calls += [(name, 3, *bad) for bad in BAD_ARGUMENTS]
        calls += [("count_roots_between", 3, *bad) for bad in bad_ends() + list(BAD_INTERVALS)]
        self.expect_refused_on_zero(calls, -33)

    def test_settings_outside_their_ranges(self):
        for slot in (0, 3):
            self.expect_refused([("set_polynomial", slot, *bad) for bad in BAD_SETTINGS], -22)
            self.expect_refused_on_zero([("set_polynomial", slot, *bad) for bad in BAD_SETTINGS], -22)

    def test_arguments_outside_their_ranges(self):
        for slot in range(4):
            for name in ("evaluate",) + POINT_CALLS:
                self.expect_refused([(name, slot, *bad) for bad in BAD_ARGUMENTS], -22)

    def test_evaluate_checks_its_argument_on_the_zero_polynomial(self):
        self.expect_refused_on_zero([("evaluate", 0, *bad) for bad in BAD_ARGUMENTS], -22)

    def test_ends_outside_their_ranges(self):
        for slot in range(4):
            self.expect_refused([("count_roots_between", slot, *bad) for bad in bad_ends()], -22)

    def test_no_interval_between_the_ends(self):
        for slot in range(4):
            self.expect_refused([("count_roots_between", slot, *bad) for bad in BAD_INTERVALS], -22)

    def test_edges_that_are_taken(self):
        for numerator, denominator in GOOD_ARGUMENTS:
            # slot 1 holds the constant 3/2, which has no root
            self.expect(
                *SETTINGS,
                (("evaluate", 1, numerator, denominator), [0, 3, 2]),
                (("count_roots_up_to", 1, numerator, denominator), 0),
                (("multiplicity", 1, numerator, denominator), 0),
                (("count_roots_between", 1, -1000000, 1, 1000000, 1), [0, 0]),
            )

    def test_bits_powers_and_roots_that_are_taken(self):
        for bits in (0, 30):
            self.expect(
                *SETTINGS,
                (("root_floor", 2, 0, bits), [0, 0]),
                (("root_floor", 3, 0, bits), [0, -2 ** bits]),
                (("root_floor", 0, 1, bits), [0, 1 if bits == 0 else 1518500249]),
                (("largest_roots", bits), [3, 0, 1 if bits == 0 else 1518500249, 2, 0, 3, -2 ** bits]),
            )
        for power in (0, 12):
            self.expect(
                *SETTINGS,
                (("power_sums", 1, power), [power + 1] + [0, 1] * (power + 1)),
                (("power_sums", 3, power), [power + 1, 1, 1] + [-1, 1, 1, 1] * (power // 2)),
            )

    def test_the_last_slot_is_taken_in_each_place(self):
        self.expect(
            *SETTINGS,
            (("root_floor", 3, 0, 2), [0, -4]),
            (("root_bound", 3), 2),
            (("power_sums", 3, 1), [2, 1, 1, -1, 1]),
            (("hermite_inertia", 3), [1, 0]),
            (("first_newton_violation", 3), 0),
            (("multiply", 3, 0, 3), [4, 2, 1, 2, 1, -1, 1, -1, 1]),
            (("multiply", 0, 3, 1), [6, -4, 1, -4, 1, 4, 1, 4, 1, -1, 1, -1, 1]),
            (("squarefree", 1, 3), [4, -2, 1, -2, 1, 1, 1, 1, 1]),
            (("gcd", 3, 0, 2), [3, -2, 1, 0, 1, 1, 1]),
            (("gcd", 0, 3, 3), [3, -2, 1, 0, 1, 1, 1]),
            (("derivative", 3, 0), [2, 0, 1, 2, 1]),
            (("squarefree", 3, 1), [3, -2, 1, 0, 1, 1, 1]),
            (("derivative", 0, 3), [1, 2, 1]),
            (("summary",), [4, 2, 3, 3, 1]),
        )

    def test_intervals_that_just_hold(self):
        for ends in ((997, 998, 998, 999), (-998, 999, -997, 998), (999999, 1, 1000000, 1),
                     (-1000000, 1, -999999, 1), (-1, 1000, 0, 1), (0, 1000, 1, 1000), (1, 3, 1, 2), (-1, 2, -1, 3)):
            self.expect(*SETTINGS, (("count_roots_between", 1, *ends), [0, 0]))


if __name__ == "__main__":
    unittest.main()
