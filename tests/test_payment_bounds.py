"""Operation 10, payment_bounds."""

import itertools
import unittest

from tests.helper import (
    INVALID, LARGEST, NO_SUCH_MEMBER, NO_TRUTHFUL_PAYMENTS, add_type, allocate_all, answer_after, begun,
    begun_with_losses, create, payment_bounds, run, set_allocation, use_affine_maximizer,
    use_welfare_maximizer)

# The row is the type, the place in it what the type reports.
LOSSES = [[0, 4, 9], [2, 0, 1], [10, 3, 0]]

# Agent 0 has a negative cycle if agent 1 reports 0, none if it reports 1 or 2; agent 1 has one if agent 0 reports 0.
TYPES = [[[0, 1], [1, 0]], [[0, 2], [2, 0], [2, 0]]]
HALF_HARMED = begun(TYPES) + allocate_all([0, 1, 0, 1, 0, 0], [2, 3])


def bounds_of_all(calls, count):
    """The answers for each type of the only agent."""
    return run(calls + [payment_bounds(0, [kind]) for kind in range(count)])[-count:]


class PaymentBounds(unittest.TestCase):
    def test_two_types(self):
        # Type 1 loses 3 by reporting 0, type 0 loses 8 by reporting 1.
        self.assertEqual(bounds_of_all(begun_with_losses([[0, 8], [3, 0]]), 2), [[0, 0, 0], [0, 3, -8]])
        self.assertEqual(bounds_of_all(begun_with_losses([[0, 8], [-8, 0]]), 2), [[0, 0, 0], [0, -8, -8]])
        self.assertEqual(bounds_of_all(begun_with_losses([[0, -3], [8, 0]]), 2), [[0, 0, 0], [0, 8, 3]])

    def test_by_way_of_a_third_type(self):
        # To 1: 2 or 10 + 1. To 2: 10 or 2 + 3. From 1: 4 or 3 + 9. From 2: 9 or 1 + 4.
        self.assertEqual(bounds_of_all(begun_with_losses(LOSSES), 3), [[0, 0, 0], [0, 2, -4], [0, 5, -5]])

    def test_by_way_of_all_four_types_in_each_order(self):
        for middle in itertools.permutations([1, 2, 3]):
            path = [0] + list(middle)
            losses = [[0 if kind == reported else 40 for reported in range(4)] for kind in range(4)]
            for near, far in zip(path, path[1:]):
                losses[far][near] = 1
                losses[near][far] = 2
            expected = [None] * 4
            for distance, kind in enumerate(path):
                expected[kind] = [0, distance, -2 * distance]
            self.assertEqual(bounds_of_all(begun_with_losses(losses), 4), expected)

    def test_the_straight_way_is_taken_if_it_is_shorter(self):
        losses = [[0, 7, 8, 9], [1, 0, 7, 7], [2, 7, 0, 7], [3, 7, 7, 0]]
        self.assertEqual(bounds_of_all(begun_with_losses(losses), 4), [[0, 0, 0], [0, 1, -7], [0, 2, -8], [0, 3, -9]])

    def test_negative_losses(self):
        # To 1: -2 or -4 + 5. To 2: -4 or -2 - 3. From 1: 4 or -3 + 6. From 2: 6 or 5 + 4.
        losses = [[0, 4, 6], [-2, 0, 5], [-4, -3, 0]]
        self.assertEqual(bounds_of_all(begun_with_losses(losses), 3), [[0, 0, 0], [0, -2, -3], [0, -5, -6]])

    def test_type_0_pays_0(self):
        for losses in (LOSSES, [[0, 0], [0, 0]], [[0, 50], [50, 0]], [[0, -7], [7, 0]]):
            self.assertEqual(answer_after(begun_with_losses(losses), payment_bounds(0, [0])), [0, 0, 0])

    def test_one_type(self):
        for alternative in (0, 1):
            calls = begun([[[-4, 9]]]) + [set_allocation(alternative, [0])]
            self.assertEqual(answer_after(calls, payment_bounds(0, [0])), [0, 0, 0])

    def test_two_types_with_the_same_values(self):
        calls = begun([[[3, -8], [3, -8]]])
        self.assertEqual(bounds_of_all(calls, 2), [[0, 0, 0], [0, 0, 0]])
        self.assertEqual(bounds_of_all(calls + [set_allocation(1, [1])], 2), [[0, 0, 0], [0, -11, -11]])
        self.assertEqual(bounds_of_all(calls + [set_allocation(1, [0])], 2), [[0, 0, 0], [0, 11, 11]])

    def test_constant_allocation(self):
        calls = begun([[[0, 9], [-7, 50], [4, -4], [9, 9]]])
        self.assertEqual(bounds_of_all(calls, 4), [[0, 0, 0]] * 4)

    def test_greatest_and_least_values(self):
        calls = begun([[[50, -50], [-50, 50]]]) + [set_allocation(1, [1])]
        self.assertEqual(bounds_of_all(calls, 2), [[0, 0, 0], [0, 100, -100]])

    def test_weights_of_0(self):
        calls = begun([[[0, 9], [9, 0]], [[5, 0], [0, 5]]]) + [use_affine_maximizer([0, 1, 0, 0])]
        for profile in ([0, 0], [0, 1], [1, 0], [1, 1]):
            self.assertEqual(answer_after(calls, payment_bounds(0, profile)), [0, 0, 0])
        self.assertEqual(answer_after(calls, payment_bounds(1, [1, 1])), [0, 5, -5])

    def test_minus_numbers_are_bounds_and_no_refusal(self):
        calls = begun_with_losses([[0, 33], [-22, 0]])
        self.assertEqual(answer_after(calls, payment_bounds(0, [1])), [0, -22, -33])

    def test_what_the_others_report_counts(self):
        # Agent 0 has the types [0, 6] and [0, 1]; agent 1 gives alternative 1 at 0 to both, at 1 to type 0 alone.
        calls = begun([[[0, 6], [0, 1]], [[0, 0], [0, 0]]]) + allocate_all([1, 1, 1, 0], [2, 2])
        self.assertEqual(answer_after(calls, payment_bounds(0, [1, 0])), [0, 0, 0])
        self.assertEqual(answer_after(calls, payment_bounds(0, [1, 1])), [0, -1, -6])

    def test_three_agents_with_four_types_each(self):
        none = [[0, 0, 0, 0]] * 4
        values = [[-loss for loss in row] for row in [[0, 7, 8, 9], [1, 0, 7, 7], [2, 7, 0, 7], [3, 1, 7, 0]]]
        calls = begun([none, values, none]) + [set_allocation(number, [3, number, 2]) for number in range(4)]
        expected = [[0, 0, 0], [0, 1, -7], [0, 2, -8], [0, 2, -9]]
        given = run(calls + [payment_bounds(1, [3, kind, 2]) for kind in range(4)])[-4:]
        self.assertEqual(given, expected)
        for agent, profile in ((0, [3, 3, 2]), (2, [3, 3, 2]), (1, [2, 3, 3])):
            self.assertEqual(answer_after(calls, payment_bounds(agent, profile)), [0, 0, 0])

    def test_after_the_welfare_maximizer(self):
        # Agent 1 has 6 for alternative 0, so agent 0 pays 6 for alternative 1.
        calls = begun([[[0, 10], [0, 4], [0, 7]], [[6, 0]]]) + [use_welfare_maximizer()]
        given = run(calls + [payment_bounds(0, [kind, 0]) for kind in range(3)])[-3:]
        self.assertEqual(given, [[0, 0, 0], [0, -4, -7], [0, 0, 0]])


class NoTruthfulPayments(unittest.TestCase):
    def test_cycle_of_two_types_at_each_report(self):
        for losses in ([[0, 5], [-6, 0]], [[0, -6], [5, 0]], [[0, -1], [-1, 0]]):
            self.assertEqual(bounds_of_all(begun_with_losses(losses), 2), [NO_TRUTHFUL_PAYMENTS] * 2)

    def test_cycle_without_the_reported_type(self):
        losses = [[0, 9, 9], [9, 0, -1], [9, 0, 0]]
        self.assertEqual(bounds_of_all(begun_with_losses(losses), 3), [NO_TRUTHFUL_PAYMENTS] * 3)

    def test_cycle_of_three_types_alone(self):
        calls = begun([[[0, -1, 1], [1, 0, -1], [-1, 1, 0]]]) + allocate_all([0, 1, 2], [3])
        self.assertEqual(bounds_of_all(calls, 3), [NO_TRUTHFUL_PAYMENTS] * 3)

    def test_cycle_of_four_types_alone(self):
        losses = [[0, 1, 5, -1], [-1, 0, 1, 5], [5, -1, 0, 1], [1, 5, -1, 0]]
        self.assertEqual(bounds_of_all(begun_with_losses(losses), 4), [NO_TRUTHFUL_PAYMENTS] * 4)

    def test_length_of_0_is_not_negative(self):
        # 1 loses nothing by reporting 0, 2 nothing by 1, 3 loses 1 by 2, and 0 gains it by 3.
        losses = [[0, 1, 5, -1], [0, 0, 1, 5], [5, 0, 0, 1], [1, 5, 1, 0]]
        self.assertEqual(bounds_of_all(begun_with_losses(losses), 4), [[0, 0, 0], [0, 0, 0], [0, 0, 0], [0, 1, 1]])

    def test_of_this_agent_at_this_profile(self):
        for kind in (0, 1):
            self.assertEqual(answer_after(HALF_HARMED, payment_bounds(0, [kind, 0])), NO_TRUTHFUL_PAYMENTS)
            self.assertEqual(answer_after(HALF_HARMED, payment_bounds(0, [kind, 1])), [0, kind, -kind])
            self.assertEqual(answer_after(HALF_HARMED, payment_bounds(0, [kind, 2])), [0, 0, 0])
        for kind in range(3):
            self.assertEqual(answer_after(HALF_HARMED, payment_bounds(1, [0, kind])), NO_TRUTHFUL_PAYMENTS)


class PaymentBoundsRefused(unittest.TestCase):
    def test_no_such_agent(self):
        for agent in (2, 3, 255, LARGEST):
            self.assertEqual(answer_after(HALF_HARMED, payment_bounds(agent, [0, 0])), NO_SUCH_MEMBER)
        for agent_count in (1, 2, 3):
            calls = begun([[[0, 0]]] * agent_count)
            for agent in range(5):
                given = answer_after(calls, payment_bounds(agent, [0] * agent_count))
                self.assertEqual(given, [0, 0, 0] if agent < agent_count else NO_SUCH_MEMBER)

    def test_no_profile(self):
        for profile in ([], [0], [0, 0, 0], [0] * 8, [2, 0], [0, 3], [LARGEST, 0], [0, LARGEST]):
            for agent in (0, 1):
                self.assertEqual(answer_after(HALF_HARMED, payment_bounds(agent, profile)), INVALID)

    def test_the_agent_is_checked_ahead_of_the_profile(self):
        for profile in ([], [0], [0, 0, 0], [2, 0], [0, 3], [LARGEST] * 8):
            for agent in (2, LARGEST):
                self.assertEqual(answer_after(HALF_HARMED, payment_bounds(agent, profile)), NO_SUCH_MEMBER)

    def test_the_profile_is_checked_ahead_of_the_payments(self):
        # There are no truthful payments of agent 0 whatever is reported.
        calls = begun([[[0, 1], [1, 0]]]) + [set_allocation(1, [1])]
        self.assertEqual(answer_after(calls, payment_bounds(0, [1])), NO_TRUTHFUL_PAYMENTS)
        for profile in ([], [2], [LARGEST], [0, 0], [1] * 8):
            self.assertEqual(answer_after(calls, payment_bounds(0, profile)), INVALID)
        self.assertEqual(answer_after(calls, payment_bounds(1, [1])), NO_SUCH_MEMBER)

    def test_not_once_more_after_add_type_or_create(self):
        calls = begun([[[0, 1], [1, 0]]]) + [set_allocation(1, [1])]
        self.assertEqual(answer_after(calls + [add_type(0, [0, 0])], payment_bounds(0, [1])), [0, 0, 0])
        calls = calls + [create(1, 2), add_type(0, [0, 1])]
        self.assertEqual(answer_after(calls, payment_bounds(0, [0])), [0, 0, 0])
        self.assertEqual(answer_after(calls, payment_bounds(0, [1])), INVALID)


if __name__ == "__main__":
    unittest.main()
