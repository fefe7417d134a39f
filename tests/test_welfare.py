"""Operation 13, welfare."""

import unittest

from tests.helper import (
    INVALID, LARGEST, add_type, allocate_all, answer_after, begun, create, profiles, run, set_allocation,
    use_affine_maximizer, use_agent_maximizer, use_welfare_maximizer, welfare)

# Agent 0 has two types, agent 1 has three; the totals of each profile stand below.
TYPES = [[[0, 4, 1], [-7, -9, -8]], [[3, 0, 2], [0, 0, 9], [-2, -1, -3]]]
READY = begun(TYPES)
TOTALS = [[3, 4, 3], [0, 4, 10], [-2, 3, -2], [-4, -9, -6], [-7, -9, 1], [-9, -10, -11]]


class Welfare(unittest.TestCase):
    def test_every_profile_at_each_alternative(self):
        order = profiles([2, 3])
        for alternative in range(3):
            calls = READY + allocate_all([alternative] * 6, [2, 3])
            given = run(calls + [welfare(profile) for profile in order])[-6:]
            self.assertEqual(given, [[alternative, totals[alternative], max(totals)] for totals in TOTALS])

    def test_after_the_welfare_maximizer(self):
        calls = READY + [use_welfare_maximizer()]
        given = run(calls + [welfare(profile) for profile in profiles([2, 3])])[-6:]
        self.assertEqual(given, [[1, 4, 4], [2, 10, 10], [1, 3, 3], [0, -4, -4], [2, 1, 1], [0, -9, -9]])

    def test_weights_and_boosts_do_not_count(self):
        calls = READY + [use_affine_maximizer([0, 5, 0, 99, 0])]
        self.assertEqual(answer_after(calls, welfare([0, 1])), [1, 4, 10])
        calls = READY + [use_agent_maximizer(0)]
        self.assertEqual(answer_after(calls, welfare([1, 1])), [0, -7, 1])

    def test_one_agent_with_one_type(self):
        calls = begun([[[5, -5]]])
        self.assertEqual(answer_after(calls, welfare([0])), [0, 5, 5])
        self.assertEqual(answer_after(calls + [set_allocation(1, [0])], welfare([0])), [1, -5, 5])

    def test_three_agents_with_four_types_each(self):
        types = [[[kind, 3 - kind, agent, 0] for kind in range(4)] for agent in range(3)]
        calls = begun(types)
        self.assertEqual(answer_after(calls, welfare([3, 2, 1])), [0, 6, 6])
        self.assertEqual(answer_after(calls, welfare([0, 0, 3])), [0, 3, 6])
        self.assertEqual(answer_after(calls + [set_allocation(2, [0, 0, 3])], welfare([0, 0, 3])), [2, 3, 6])
        self.assertEqual(answer_after(calls + [set_allocation(3, [0, 0, 3])], welfare([0, 0, 3])), [3, 0, 6])

    def test_greatest_and_least_totals(self):
        calls = begun([[[50, -50]]] * 3)
        self.assertEqual(answer_after(calls, welfare([0, 0, 0])), [0, 150, 150])
        self.assertEqual(answer_after(calls + [set_allocation(1, [0, 0, 0])], welfare([0, 0, 0])), [1, -150, 150])

    def test_two_types_with_the_same_values(self):
        calls = begun([[[1, 8], [1, 8]]]) + [set_allocation(1, [1])]
        self.assertEqual(run(calls + [welfare([0]), welfare([1])])[-2:], [[0, 1, 8], [1, 8, 8]])


class WelfareRefused(unittest.TestCase):
    def test_no_profile(self):
        for profile in ([], [0], [0, 0, 0], [0] * 12, [2, 0], [0, 3], [LARGEST, 0], [0, LARGEST], [LARGEST] * 12):
            self.assertEqual(answer_after(READY, welfare(profile)), INVALID)

    def test_no_profile_any_more(self):
        calls = READY + [create(1, 2), add_type(0, [3, 4])]
        self.assertEqual(answer_after(calls, welfare([0, 0])), INVALID)
        self.assertEqual(answer_after(calls, welfare([0])), [0, 3, 4])


if __name__ == "__main__":
    unittest.main()
