"""The rows of the document's examples whose operations have landed, in their order."""

import unittest

from tests.helper import (
    add_type, allocation, create, misreport_loss, run, set_allocation, use_welfare_maximizer)


class Examples(unittest.TestCase):
    def test_rows_in_their_order(self):
        rows = [
            (create(2, 2), [0]),
            (add_type(0, [0, 10]), [0]),
            (add_type(0, [0, 4]), [1]),
            (add_type(1, [6, 0]), [0]),
            (use_welfare_maximizer(), [0]),
            (allocation([0, 0]), [1]),
            (allocation([1, 0]), [0]),
            (misreport_loss(0, 1, [0, 0]), [0, 10]),
            (set_allocation(0, [0, 0]), [1]),
            (set_allocation(1, [1, 0]), [0]),
        ]
        self.assertEqual(run([row[0] for row in rows]), [row[1] for row in rows])


if __name__ == "__main__":
    unittest.main()
