"""The rows of the document's session that need the calls 0 to 10 alone."""

import unittest

from helper import CallTest


class ExamplesTest(CallTest):
    def test_session(self):
        self.expect(
            (("create",), 0),
            (("set_polynomial", 0, 1, [-2, 0, 1]), [3, -2, 1, 0, 1, 1, 1]),
            (("count_roots", 0), 2),
            (("count_roots_between", 0, 1, 1, 3, 2), [1, 1]),
            (("set_polynomial", 1, 1, [1, -2, 1]), [3, 1, 1, -2, 1, 1, 1]),
            (("multiplicity", 1, 1, 1), 2),
            (("count_distinct_roots", 1), 1),
            (("degree", 3), -33),
        )


if __name__ == "__main__":
    unittest.main()
