"""The operations 2 to 13 while an agent has no type."""

import unittest

from tests.helper import (
    INVALID, LARGEST, LARGEST_VALUE, NOT_READY, NO_SUCH_MEMBER, SMALLEST_VALUE, add_type, allocation,
    answer_after, are_truthful_payments, create, describe, is_cyclically_monotonic, is_weakly_monotonic,
    misreport_loss, payment_bounds, pivot_payments, probe, run, set_allocation, use_affine_maximizer,
    use_agent_maximizer, use_welfare_maximizer, welfare)

# Each of the operations 2 to 13 with arguments that would do, and with each of its errors.
CALLS_THAT_WAIT = [
    set_allocation(0, [0, 0, 0]), set_allocation(2, [0, 0, 0]), set_allocation(LARGEST, [LARGEST] * 8),
    set_allocation(0, []),
    allocation([0, 0, 0]), allocation([]), allocation([LARGEST] * 12), allocation([0, 0]),
    use_welfare_maximizer(),
    use_affine_maximizer([1, 1, 1, 0, 0]), use_affine_maximizer([]), use_affine_maximizer([LARGEST] * 12),
    use_affine_maximizer([100, 1, 1, 0, 0]),
    use_agent_maximizer(0), use_agent_maximizer(1), use_agent_maximizer(2), use_agent_maximizer(3),
    use_agent_maximizer(LARGEST),
    misreport_loss(0, 0, [0, 0, 0]), misreport_loss(3, 0, [0, 0, 0]), misreport_loss(0, 4, [0, 0, 0]),
    misreport_loss(0, 0, []), misreport_loss(LARGEST, LARGEST, [LARGEST] * 8),
    is_cyclically_monotonic(),
    is_weakly_monotonic(),
    payment_bounds(0, [0, 0, 0]), payment_bounds(3, [0, 0, 0]), payment_bounds(1, [0, 0]),
    payment_bounds(2, [4, 0, 0]), payment_bounds(LARGEST, [LARGEST] * 8),
    are_truthful_payments(0, [0, 0, 0], [0]), are_truthful_payments(0, [0, 0, 0], []),
    are_truthful_payments(3, [0, 0, 0], [0]), are_truthful_payments(1, [0, 0, 0], [1001]),
    are_truthful_payments(LARGEST, [LARGEST] * 8, [SMALLEST_VALUE, LARGEST_VALUE] * 4),
    pivot_payments([0, 0, 0]), pivot_payments([]), pivot_payments([LARGEST] * 12),
    welfare([0, 0, 0]), welfare([]), welfare([LARGEST] * 12),
]


class NotReady(unittest.TestCase):
    def test_while_any_agent_has_no_type(self):
        for with_types in ([], [0], [1], [2], [0, 1], [0, 2], [1, 2], [0, 0, 0, 0], [2, 2, 1]):
            first = [create(3, 2)] + [add_type(agent, [1, 2]) for agent in with_types]
            for call in CALLS_THAT_WAIT:
                self.assertEqual(answer_after(first, call), NOT_READY)

    def test_of_one_agent(self):
        for call in CALLS_THAT_WAIT:
            self.assertEqual(answer_after([create(1, 2)], call), NOT_READY)

    def test_add_type_create_and_describe_do_not_wait(self):
        first = [create(2, 2)]
        self.assertEqual(answer_after(first, describe()), [2, 2, 0, 0])
        self.assertEqual(answer_after(first, add_type(1, [0, 0])), [0])
        self.assertEqual(answer_after(first, add_type(2, [0, 0])), NO_SUCH_MEMBER)
        self.assertEqual(answer_after(first, add_type(0, [0])), INVALID)
        self.assertEqual(answer_after(first, create(0, 2)), INVALID)
        self.assertEqual(answer_after(first, create(3, 3)), [0])

    def test_no_longer_once_every_agent_has_one(self):
        first = [create(3, 2), add_type(2, [0, 0]), add_type(0, [0, 0]), add_type(1, [0, 0])]
        for call in CALLS_THAT_WAIT:
            self.assertNotEqual(answer_after(first, call), NOT_READY)

    def test_what_was_refused_leaves_the_state(self):
        rest = [add_type(0, [1, 3]), add_type(0, [2, 0]), add_type(1, [0, 1])]
        first = [create(3, 2), add_type(2, [4, 0]), add_type(2, [0, 5])]
        last = rest + probe([2, 1, 2], 2)
        expected = run(first + last)[len(first):]
        for call in CALLS_THAT_WAIT:
            self.assertEqual(run(first + [call] + last)[len(first):], [NOT_READY] + expected)


if __name__ == "__main__":
    unittest.main()
