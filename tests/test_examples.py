"""The rows of the document's examples, in their order, as one list of calls."""

import unittest

from tests.helper import (
    add_type, allocation, are_truthful_payments, create, is_cyclically_monotonic, is_weakly_monotonic,
    misreport_loss, payment_bounds, pivot_payments, run, set_allocation, use_welfare_maximizer, welfare)


class Examples(unittest.TestCase):
    def test_rows_in_their_order(self):
        rows = [
            (create(2, 2), [0]),
            (add_type(0, [0, 10]), [0]),
            (add_type(0, [0, 4]), [1]),
            (add_type(1, [6, 0]), [0]),
            (use_welfare_maximizer(), [0]),
            (allocation([0, 0]), [1]),
            (allocation([1, 0]), [0]),
            (is_cyclically_monotonic(), [1]),
            (misreport_loss(0, 1, [0, 0]), [0, 10]),
            (payment_bounds(0, [1, 0]), [0, -4, -10]),
            (pivot_payments([0, 0]), [2, 6, 0]),
            (are_truthful_payments(0, [0, 0], [6, 0]), [1]),
            (welfare([1, 0]), [0, 6, 6]),
            (set_allocation(0, [0, 0]), [1]),
            (set_allocation(1, [1, 0]), [0]),
            (is_weakly_monotonic(), [0, 0, 0, 0, 0, 1]),
            (payment_bounds(0, [1, 0]), [-33]),
        ]
        self.assertEqual(run([row[0] for row in rows]), [row[1] for row in rows])


if __name__ == "__main__":
    unittest.main()
