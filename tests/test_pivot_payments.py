"""Operation 12, pivot_payments."""

import unittest

from tests.helper import (
    INVALID, LARGEST, add_type, allocate_all, answer_after, begun, create, pivot_payments, profiles, run,
    set_allocation, use_affine_maximizer, use_agent_maximizer, use_welfare_maximizer)

# The values of three agents for four alternatives; the first has two types.
TYPES = [[[9, 0, 3, 1], [-9, 0, -3, 1]], [[0, 6, 4, 0]], [[1, 2, 8, -50]]]
READY = begun(TYPES)


class PivotPayments(unittest.TestCase):
    def test_two_agents(self):
        calls = begun([[[0, 10], [0, 4]], [[6, 0]]]) + [use_welfare_maximizer()]
        self.assertEqual(answer_after(calls, pivot_payments([0, 0])), [2, 6, 0])
        self.assertEqual(answer_after(calls, pivot_payments([1, 0])), [2, 0, 4])

    def test_three_agents_at_each_alternative(self):
        # Others' values: without 0 [1,8,12,-50], without 1 [10,2,11,-49], without 2 [9,6,7,1].
        expected = [[3, 11, 1, 0], [3, 4, 9, 3], [3, 0, 0, 2], [3, 62, 60, 8]]
        for alternative in range(4):
            calls = READY + [set_allocation(alternative, [0, 0, 0])]
            self.assertEqual(answer_after(calls, pivot_payments([0, 0, 0])), expected[alternative])

    def test_the_reported_types_count(self):
        # Others' values: without 0 [1,8,12,-50], without 1 [-8,2,5,-49], without 2 [-9,6,1,1].
        expected = [[3, 11, 13, 15], [3, 4, 3, 0], [3, 0, 0, 5], [3, 62, 54, 5]]
        for alternative in range(4):
            calls = READY + [set_allocation(alternative, [1, 0, 0])]
            self.assertEqual(answer_after(calls, pivot_payments([1, 0, 0])), expected[alternative])

    def test_one_agent_pays_nothing(self):
        calls = begun([[[-50, 50, 0], [3, 2, 1]]])
        for alternative in range(3):
            for kind in range(2):
                given = answer_after(calls + [set_allocation(alternative, [kind])], pivot_payments([kind]))
                self.assertEqual(given, [1, 0])

    def test_the_current_allocation_counts(self):
        types = [[[0, 10], [0, 4]], [[6, 0]]]
        for rule, expected in ((use_welfare_maximizer(), [2, 0, 4]), (use_agent_maximizer(0), [2, 6, 0]),
                               (use_agent_maximizer(1), [2, 0, 4]), (use_affine_maximizer([0, 0, 0, 1]), [2, 6, 0])):
            self.assertEqual(answer_after(begun(types) + [rule], pivot_payments([1, 0])), expected)

    def test_weights_and_boosts_do_not_count(self):
        calls = begun([[[0, 10]], [[6, 0]]]) + [use_affine_maximizer([3, 9, 99, 0])]
        self.assertEqual(answer_after(calls, pivot_payments([0, 0])), [2, 0, 10])

    def test_a_weight_of_0(self):
        calls = begun([[[0, 10]], [[6, 0]]]) + [use_affine_maximizer([1, 0, 0, 0])]
        self.assertEqual(answer_after(calls, pivot_payments([0, 0])), [2, 6, 0])

    def test_constant_allocation(self):
        calls = begun([[[0, 10], [0, 4]], [[6, 0], [-2, -2]]])
        given = run(calls + [pivot_payments(profile) for profile in profiles([2, 2])])[-4:]
        self.assertEqual(given, [[2, 0, 10], [2, 0, 10], [2, 0, 4], [2, 0, 4]])

    def test_negative_values(self):
        calls = begun([[[-9, -2]], [[-3, -4]], [[-7, -1]]])
        # Others' values: without 0 [-10,-5], without 1 [-16,-3], without 2 [-12,-6].
        self.assertEqual(answer_after(calls, pivot_payments([0, 0, 0])), [3, 5, 13, 6])
        self.assertEqual(answer_after(calls + [set_allocation(1, [0, 0, 0])], pivot_payments([0, 0, 0])), [3, 0, 0, 0])

    def test_greatest_payments(self):
        calls = begun([[[-50, 50]]] * 3)
        self.assertEqual(answer_after(calls, pivot_payments([0, 0, 0])), [3, 200, 200, 200])

    def test_two_types_with_the_same_values(self):
        calls = begun([[[0, 10], [0, 10]], [[6, 0]]]) + allocate_all([0, 1], [2, 1])
        self.assertEqual(answer_after(calls, pivot_payments([0, 0])), [2, 0, 10])
        self.assertEqual(answer_after(calls, pivot_payments([1, 0])), [2, 6, 0])

    def test_three_agents_with_four_types_each(self):
        types = [[[kind, 3 - kind, agent] for kind in range(4)] for agent in range(3)]
        calls = begun(types) + [use_welfare_maximizer()]
        # At [3, 2, 1] the totals are 6, 3, 3; without 0: 3, 3, 3; without 1: 4, 2, 2; without 2: 5, 1, 1.
        self.assertEqual(answer_after(calls, pivot_payments([3, 2, 1])), [3, 0, 0, 0])
        # At [0, 0, 3] they are 3, 6, 3; without 0: 3, 3, 3; without 1: 3, 3, 2; without 2: 0, 6, 1.
        self.assertEqual(answer_after(calls, pivot_payments([0, 0, 3])), [3, 0, 0, 0])
        # At [0, 3, 3] they are 6, 3, 3; without 0: 6, 0, 3; without 1 and without 2: 3, 3, 2 and 3, 3, 1.
        self.assertEqual(answer_after(calls, pivot_payments([0, 3, 3])), [3, 0, 0, 0])
        self.assertEqual(answer_after(calls + [set_allocation(2, [0, 3, 3])], pivot_payments([0, 3, 3])), [3, 3, 1, 2])


class PivotPaymentsRefused(unittest.TestCase):
    def test_no_profile(self):
        for profile in ([], [0], [0, 0], [0, 0, 0, 0], [0] * 12, [2, 0, 0], [0, 1, 0], [0, 0, 1],
                        [LARGEST, 0, 0], [0, LARGEST, 0], [0, 0, LARGEST], [LARGEST] * 12):
            self.assertEqual(answer_after(READY, pivot_payments(profile)), INVALID)

    def test_no_profile_any_more(self):
        calls = READY + [create(1, 2), add_type(0, [3, 4])]
        self.assertEqual(answer_after(calls, pivot_payments([0, 0, 0])), INVALID)
        self.assertEqual(answer_after(calls, pivot_payments([0])), [1, 0])


if __name__ == "__main__":
    unittest.main()
