"""Operation 0, create, and the operations that wait for it."""

import unittest

from tests.helper import (
    INVALID, LARGEST, LARGEST_VALUE, NOT_READY, NO_INSTANCE, NO_SUCH_MEMBER, SMALLEST_VALUE,
    add_type, allocation, answer_after, are_truthful_payments, create, describe, is_cyclically_monotonic,
    is_weakly_monotonic, misreport_loss, payment_bounds, pivot_payments, probe, run, set_allocation,
    use_affine_maximizer, use_agent_maximizer, use_welfare_maximizer, welfare)

# Each of the operations 1 to 14 with arguments that would do, and with ones that are wrong.
CALLS_BUT_CREATE = [
    add_type(0, [0, 0]), add_type(LARGEST, [LARGEST_VALUE, SMALLEST_VALUE]), add_type(0, []),
    set_allocation(0, [0]), set_allocation(LARGEST, [LARGEST] * 8), set_allocation(0, []),
    allocation([0]), allocation([LARGEST] * 12), allocation([]),
    use_welfare_maximizer(),
    use_affine_maximizer([1, 0, 0]), use_affine_maximizer([LARGEST] * 12), use_affine_maximizer([]),
    use_agent_maximizer(0), use_agent_maximizer(LARGEST),
    misreport_loss(0, 0, [0]), misreport_loss(LARGEST, LARGEST, [LARGEST] * 8), misreport_loss(0, 0, []),
    is_cyclically_monotonic(),
    is_weakly_monotonic(),
    payment_bounds(0, [0]), payment_bounds(LARGEST, [LARGEST] * 8), payment_bounds(0, []),
    are_truthful_payments(0, [0], [0]), are_truthful_payments(LARGEST, [LARGEST] * 8, [SMALLEST_VALUE] * 8),
    are_truthful_payments(0, [], []), are_truthful_payments(0, [0], [1001]),
    pivot_payments([0]), pivot_payments([LARGEST] * 12), pivot_payments([]),
    welfare([0]), welfare([LARGEST] * 12), welfare([]),
    describe(),
]


class Create(unittest.TestCase):
    def test_every_count_in_range(self):
        for agent_count in (1, 2, 3):
            for alternative_count in (2, 3, 4):
                self.assertEqual(run([create(agent_count, alternative_count)]), [[0]])

    def test_agents_and_alternatives_are_as_many_as_passed(self):
        for agent_count in (1, 2, 3):
            for alternative_count in (2, 3, 4):
                calls = [create(agent_count, alternative_count)]
                for agent in range(4):
                    given = answer_after(calls, add_type(agent, [0] * alternative_count))
                    self.assertEqual(given, [0] if agent < agent_count else NO_SUCH_MEMBER)
                for length in range(9):
                    given = answer_after(calls, add_type(0, [0] * length))
                    self.assertEqual(given, [0] if length == alternative_count else INVALID)

    def test_agent_count_out_of_range(self):
        for agent_count in (0, 4, 5, 256, LARGEST):
            for alternative_count in (2, 3, 4):
                self.assertEqual(run([create(agent_count, alternative_count)]), [INVALID])

    def test_alternative_count_out_of_range(self):
        for alternative_count in (0, 1, 5, 6, 256, LARGEST):
            for agent_count in (1, 2, 3):
                self.assertEqual(run([create(agent_count, alternative_count)]), [INVALID])

    def test_both_counts_out_of_range(self):
        for agent_count in (0, 4, LARGEST):
            for alternative_count in (0, 1, 5, LARGEST):
                self.assertEqual(run([create(agent_count, alternative_count)]), [INVALID])

    def test_begins_without_types(self):
        for agent_count in (1, 2, 3):
            calls = [create(agent_count, 2)]
            self.assertEqual(answer_after(calls, use_welfare_maximizer()), NOT_READY)
            for agent in range(agent_count):
                self.assertEqual(answer_after(calls, add_type(agent, [0, 0])), [0])


class SecondCreate(unittest.TestCase):
    def test_replaces_the_types_and_the_counts(self):
        first = [create(2, 2), add_type(0, [1, 2]), add_type(0, [2, 1]), add_type(1, [0, 3])]
        calls = first + [create(1, 3)]
        self.assertEqual(run(calls)[-1], [0])
        self.assertEqual(answer_after(calls, allocation([0])), NOT_READY)
        self.assertEqual(answer_after(calls, add_type(1, [0, 0, 0])), NO_SUCH_MEMBER)
        self.assertEqual(answer_after(calls, add_type(0, [0, 0])), INVALID)
        self.assertEqual(answer_after(calls, add_type(0, [0, 0, 0])), [0])

    def test_replaces_an_instance_with_the_same_counts(self):
        first = [create(1, 2), add_type(0, [1, 2]), use_welfare_maximizer(), create(1, 2)]
        self.assertEqual(answer_after(first, allocation([0])), NOT_READY)
        calls = first + [add_type(0, [5, -5])]
        self.assertEqual(run(calls)[-1], [0])
        self.assertEqual(answer_after(calls, allocation([0])), [0])
        self.assertEqual(answer_after(calls, allocation([1])), INVALID)

    def test_answers_afterwards_as_the_first_one_does(self):
        first = [create(3, 4), add_type(0, [1, 2, 3, 4]), add_type(1, [9, 2, 3, 4]),
                 add_type(2, [1, 2, 3, 4]), use_welfare_maximizer()]
        second = [create(2, 3), add_type(0, [1, 5, 2]), add_type(0, [4, 0, 3]), add_type(1, [1, 1, 1])]
        second = second + probe([2, 1], 3)
        self.assertEqual(run(first + second)[len(first):], run(second))

    def test_one_that_is_refused_leaves_the_state(self):
        first = [create(2, 3), add_type(0, [1, 5, 2]), add_type(0, [4, 0, 3]), add_type(1, [1, 1, 1]),
                 use_agent_maximizer(0)]
        expected = run(first + probe([2, 1], 3))[len(first):]
        for agent_count, alternative_count in [(0, 3), (4, 3), (2, 1), (2, 5), (LARGEST, LARGEST), (1, 0)]:
            calls = first + [create(agent_count, alternative_count)]
            self.assertEqual(run(calls)[-1], INVALID)
            self.assertEqual(run(calls + probe([2, 1], 3))[len(calls):], expected)


class NoInstance(unittest.TestCase):
    def test_every_other_operation_is_refused_at_first(self):
        for call in CALLS_BUT_CREATE:
            self.assertEqual(run([call]), [NO_INSTANCE])

    def test_and_after_a_create_that_was_refused(self):
        for refused in (create(0, 2), create(4, 2), create(1, 1), create(1, 5)):
            for call in CALLS_BUT_CREATE:
                self.assertEqual(run([refused, call]), [INVALID, NO_INSTANCE])

    def test_calls_ahead_of_the_first_create_leave_nothing(self):
        self.assertEqual(
            run(CALLS_BUT_CREATE + [create(1, 2), add_type(0, [3, 4]), allocation([0])]),
            [NO_INSTANCE] * len(CALLS_BUT_CREATE) + [[0], [0], [0]])


if __name__ == "__main__":
    unittest.main()
