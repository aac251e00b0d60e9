"""The function answers: how calls and answers stand in their lists, and what it leaves alone."""

import contextlib
import io
import sys
import unittest

from helper import CallTest, encoded, run
from rootcounts.polynomials import answers

OTHER_CALLS = [
    ("set_polynomial", 0, 1, [-2, 0, 1]),
    ("set_polynomial", 0, 1, []),
    ("set_polynomial", 0, 0, [0, 0, 0]),
    ("set_polynomial", 4, 1001, [0] * 60),
    ("get_polynomial", 0),
    ("degree", 0),
    ("evaluate", 0, 0, 0),
    ("count_distinct_roots", 0),
    ("count_roots", 0),
    ("is_real_rooted", 0),
    ("count_roots_between", 0, 0, 0, 0, 0),
    ("count_roots_up_to", 0, 0, 0),
    ("multiplicity", 0, 0, 0),
    ("root_floor", 0, 0, 0),
    ("root_bound", 0),
    ("squarefree", 0, 0),
    ("gcd", 0, 0, 0),
    ("derivative", 0, 0),
    ("multiply", 0, 0, 0),
    ("power_sums", 0, 0),
    ("hermite_inertia", 0),
    ("first_newton_violation", 0),
    ("largest_roots", 0),
    ("summary",),
]

SESSION = [
    ("get_polynomial", 0),
    ("create",),
    ("set_polynomial", 0, 2, [-4, 0, 2, 0]),
    ("set_polynomial", 1, 1, [1] * 10),
    ("set_polynomial", 2, 1, [1, -2, 1]),
    ("get_polynomial", 0),
    ("degree", 1),
    ("evaluate", 0, -1, 2),
    ("evaluate", 0, -1, 0),
    ("count_distinct_roots", 2),
    ("count_roots", 2),
    ("is_real_rooted", 0),
    ("count_roots_between", 0, -3, 2, 3, 2),
    ("count_roots_between", 0, 3, 2, 3, 2),
    ("count_roots_up_to", 0, 0, 1),
    ("multiplicity", 2, 7, 7),
    ("multiplicity", 7, 7, 7),
    ("root_floor", 0, 0, 1),
    ("root_floor", 0, 2, 1),
    ("root_bound", 0),
    ("squarefree", 2, 3),
    ("gcd", 2, 3, 1),
    ("derivative", 2, 2),
    ("multiply", 0, 3, 3),
    ("multiply", 0, 0, 4),
    ("power_sums", 0, 2),
    ("hermite_inertia", 3),
    ("first_newton_violation", 3),
    ("largest_roots", 1),
    ("summary",),
]

SESSION_REPLY = [
    1, -11,
    1, 0,
    7, 3, -2, 1, 0, 1, 1, 1,
    1, -22,
    7, 3, 1, 1, -2, 1, 1, 1,
    7, 3, -2, 1, 0, 1, 1, 1,
    1, -33,
    3, 0, -7, 4,
    1, -22,
    1, 1,
    1, 2,
    1, 1,
    2, 2, 2,
    1, -22,
    1, 1,
    1, 2,
    1, -2,
    2, 0, -3,
    1, -34,
    1, 3,
    5, 2, -1, 1, 1, 1,
    5, 2, -1, 1, 1, 1,
    5, 2, -2, 1, 2, 1,
    9, 4, 2, 1, -2, 1, -1, 1, 1, 1,
    1, -2,
    7, 3, 2, 1, 0, 1, 4, 1,
    2, 3, 0,
    1, 0,
    9, 4, 0, 2, 1, 2, 2, 2, 3, 2,
    5, 4, 3, 2, 2, 4,
]


class ListsTest(unittest.TestCase):
    def test_whole_reply(self):
        reply = answers(encoded(SESSION))
        self.assertEqual(reply, SESSION_REPLY)
        self.assertIs(type(reply), list)
        self.assertEqual({type(number) for number in reply}, {int})

    def test_written_out(self):
        self.assertEqual(answers([0]), [1, 0])
        self.assertEqual(answers([0, 1, 3, 4, 2, -2, 8, 2, 3]), [1, 0, 5, 2, -1, 2, 2, 1, 5, 2, -1, 2, 2, 1])
        self.assertEqual(answers([0, 1, 3, 4, 0, 2, 3]), [1, 0, 1, 0, 1, 0])

    def test_largest_list(self):
        setting = ("set_polynomial", 4294967295, 4294967295, [-2147483648] * 60)
        calls = encoded([setting] * 200)
        self.assertEqual(len(calls), 12800)
        self.assertEqual(answers(calls), [1, -11] * 200)
        self.assertEqual(run(*[("create",)] + [setting] * 199), [[0]] + [[-2]] * 199)

    def test_rows_that_are_refused_are_passed_over_whole(self):
        for count in range(61):
            with self.subTest(count=count):
                replies = run(("create",), ("set_polynomial", 4, 1, [0] * count), ("degree", 0))
                self.assertEqual(replies, [[0], [-2], [-33]])


class LeftAloneTest(unittest.TestCase):
    def test_list_is_not_changed(self):
        calls = encoded(SESSION)
        kept = list(calls)
        answers(calls)
        self.assertEqual(calls, kept)

    def test_list_is_not_changed_for_a_while(self):
        calls = encoded(SESSION)
        kept = list(calls)
        changed = []

        def watch(frame, event, argument):
            if calls != kept:
                changed.append((frame.f_code.co_name, frame.f_lineno))
            return watch

        before = sys.gettrace()
        sys.settrace(watch)
        try:
            reply = answers(calls)
        finally:
            sys.settrace(before)
        self.assertEqual(reply, SESSION_REPLY)
        self.assertEqual(changed, [])

    def test_reply_is_another_list(self):
        calls = [0]
        self.assertIsNot(answers(calls), calls)
        self.assertIsNot(answers(calls), answers(calls))

    def test_nothing_is_printed(self):
        out = io.StringIO()
        err = io.StringIO()
        with contextlib.redirect_stdout(out), contextlib.redirect_stderr(err):
            answers(encoded(SESSION))
        self.assertEqual((out.getvalue(), err.getvalue()), ("", ""))


class NothingKeptTest(unittest.TestCase):
    def test_a_second_list_is_not_created(self):
        run(("create",), ("set_polynomial", 0, 1, [5]))
        self.assertEqual(run(("get_polynomial", 0)), [[-11]])

    def test_a_second_list_has_empty_slots(self):
        run(("create",), *[("set_polynomial", slot, 1, [5]) for slot in range(4)])
        replies = run(("create",), *[("get_polynomial", slot) for slot in range(4)])
        self.assertEqual(replies, [[0]] * 5)

    def test_results_are_not_kept(self):
        run(("create",), ("set_polynomial", 0, 1, [1, 1]), ("multiply", 0, 0, 1), ("derivative", 1, 2),
            ("gcd", 0, 1, 3))
        replies = run(("create",), ("summary",), ("largest_roots", 0), ("squarefree", 1, 2))
        self.assertEqual(replies, [[0], [4, 0, 0, 0, 0], [0], [-33]])

    def test_slots_hold_polynomials_of_their_own(self):
        # what one slot was copied from may change without the other one
        self.expect_all_slots(("multiply", 0, 1, 2), ("derivative", 2, 2))
        self.expect_all_slots(("squarefree", 0, 2), ("derivative", 2, 2))
        self.expect_all_slots(("gcd", 0, 0, 2), ("derivative", 2, 2))

    def expect_all_slots(self, *calls):
        settings = [("set_polynomial", 0, 1, [-2, 0, 1]), ("set_polynomial", 1, 1, [1])]
        gets = [("get_polynomial", slot) for slot in range(4)]
        replies = run(("create",), *settings, *calls, *gets)
        self.assertEqual(replies[-4:], [[3, -2, 1, 0, 1, 1, 1], [1, 1, 1], [2, 0, 1, 2, 1], [0]])

    def test_the_same_list_again(self):
        calls = encoded(SESSION)
        first = answers(calls)
        first.append(17)
        first[0] = 99
        self.assertEqual(answers(calls), SESSION_REPLY)

    def test_the_same_list_with_other_numbers(self):
        calls = encoded([("create",), ("set_polynomial", 0, 1, [-2, 0, 1]), ("count_roots", 0)])
        self.assertEqual(answers(calls)[-1], 2)
        calls[5] = 2
        self.assertEqual(answers(calls)[-1], 0)


class BeforeCreateTest(CallTest):
    def test_every_other_call_is_refused(self):
        for call in OTHER_CALLS:
            with self.subTest(call=call):
                self.assertEqual(run(call), [[-11]])
                self.assertEqual(run(call, call, ("create",), ("degree", 0)), [[-11], [-11], [0], [-33]])

    def test_all_of_them_in_a_row(self):
        self.assertEqual(run(*OTHER_CALLS), [[-11]] * len(OTHER_CALLS))

    def test_it_is_checked_ahead_of_all_errors(self):
        self.expect(
            (("set_polynomial", 4, 0, [1000001] * 10), -11),
            (("get_polynomial", 4), -11),
            (("degree", 4), -11),
            (("evaluate", 4, 1000001, 0), -11),
            (("count_distinct_roots", 4), -11),
            (("count_roots", 4), -11),
            (("is_real_rooted", 4), -11),
            (("count_roots_between", 4, 1, 0, 1, 0), -11),
            (("count_roots_up_to", 4, 1, 0), -11),
            (("multiplicity", 4, 1, 0), -11),
            (("root_floor", 4, 4294967295, 31), -11),
            (("root_bound", 4), -11),
            (("squarefree", 4, 4), -11),
            (("gcd", 4, 4, 4), -11),
            (("derivative", 4, 4), -11),
            (("multiply", 4, 4, 4), -11),
            (("power_sums", 4, 13), -11),
            (("hermite_inertia", 4), -11),
            (("first_newton_violation", 4), -11),
            (("largest_roots", 31), -11),
        )

    def test_what_was_refused_is_not_stored(self):
        self.expect(
            (("set_polynomial", 0, 1, [1, 1]), -11),
            (("create",), 0),
            (("get_polynomial", 0), 0),
        )


if __name__ == "__main__":
    unittest.main()
