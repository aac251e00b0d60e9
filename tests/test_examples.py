"""The document's examples: one session."""

import unittest

from helper import CallTest


class ExamplesTest(CallTest):
    def test_session(self):
        self.expect(
            (("create",), 0),
            (("set_polynomial", 0, 1, [-2, 0, 1]), [3, -2, 1, 0, 1, 1, 1]),
            (("count_roots", 0), 2),
            (("root_floor", 0, 1, 4), [0, 22]),
            (("root_floor", 0, 0, 4), [0, -23]),
            (("count_roots_between", 0, 1, 1, 3, 2), [1, 1]),
            (("power_sums", 0, 2), [3, 2, 1, 0, 1, 4, 1]),
            (("hermite_inertia", 0), [2, 0]),
            (("set_polynomial", 1, 1, [1, -2, 1]), [3, 1, 1, -2, 1, 1, 1]),
            (("multiplicity", 1, 1, 1), 2),
            (("count_distinct_roots", 1), 1),
            (("squarefree", 1, 2), [2, -1, 1, 1, 1]),
            (("root_bound", 0), 3),
            (("degree", 3), -33),
        )


if __name__ == "__main__":
    unittest.main()
