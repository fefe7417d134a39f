"""Operation 7, misreport_loss."""

import unittest

from tests.helper import (
    INVALID, LARGEST, NO_SUCH_MEMBER, add_type, answer_after, create, misreport_loss, probe, profiles,
    run, set_allocation, use_welfare_maximizer, with_report)

# Agent 0 has three types, agent 1 two.
VALUES = [[[0, 10, -5], [7, 2, 1], [-50, 50, 3]], [[4, -4, 0], [0, 6, 9]]]
FIRST = [create(2, 3)] + [add_type(agent, values) for agent in range(2) for values in VALUES[agent]]
CHOSEN = [1, 2, 0, 1, 2, 0]
PROFILES = profiles([3, 2])
READY = FIRST + [set_allocation(alternative, profile) for alternative, profile in zip(CHOSEN, PROFILES)]


def loss_by_hand(agent, profile, other):
    honest = CHOSEN[PROFILES.index(profile)]
    dishonest = CHOSEN[PROFILES.index(with_report(profile, agent, other))]
    values = VALUES[agent][profile[agent]]
    return values[honest] - values[dishonest]


class MisreportLoss(unittest.TestCase):
    def test_some_by_hand(self):
        # At [0, 0] there is alternative 1, at [1, 0] 0, at [2, 0] 2; at [0, 1] 2.
        self.assertEqual(answer_after(READY, misreport_loss(0, 1, [0, 0])), [0, 10])
        self.assertEqual(answer_after(READY, misreport_loss(0, 2, [0, 0])), [0, 15])
        self.assertEqual(answer_after(READY, misreport_loss(0, 0, [1, 0])), [0, 5])
        self.assertEqual(answer_after(READY, misreport_loss(0, 0, [2, 0])), [0, -47])
        self.assertEqual(answer_after(READY, misreport_loss(1, 1, [0, 0])), [0, -4])
        self.assertEqual(answer_after(READY, misreport_loss(1, 0, [0, 1])), [0, 3])

    def test_every_agent_profile_and_type(self):
        for profile in PROFILES:
            for agent, count in enumerate((3, 2)):
                for other in range(count):
                    given = answer_after(READY, misreport_loss(agent, other, profile))
                    self.assertEqual(given, [0, loss_by_hand(agent, profile, other)])

    def test_of_the_same_type_is_0(self):
        for profile in PROFILES:
            for agent in range(2):
                self.assertEqual(answer_after(READY, misreport_loss(agent, profile[agent], profile)), [0, 0])

    def test_greatest_and_least(self):
        calls = [create(1, 2), add_type(0, [50, -50]), add_type(0, [0, 0])]
        self.assertEqual(answer_after(calls + [set_allocation(1, [1])], misreport_loss(0, 1, [0])), [0, 100])
        self.assertEqual(answer_after(calls + [set_allocation(1, [0])], misreport_loss(0, 1, [0])), [0, -100])

    def test_minus_2_is_a_loss_and_no_refusal(self):
        calls = [create(1, 2), add_type(0, [0, 2]), add_type(0, [0, 0]), set_allocation(1, [1])]
        self.assertEqual(answer_after(calls, misreport_loss(0, 1, [0])), [0, -2])

    def test_one_type(self):
        calls = [create(1, 2), add_type(0, [-3, 3])]
        self.assertEqual(answer_after(calls, misreport_loss(0, 0, [0])), [0, 0])

    def test_two_types_with_the_same_values(self):
        calls = [create(1, 2), add_type(0, [1, 8]), add_type(0, [1, 8]), set_allocation(1, [0])]
        self.assertEqual(answer_after(calls, misreport_loss(0, 1, [0])), [0, 7])
        self.assertEqual(answer_after(calls, misreport_loss(0, 0, [1])), [0, -7])

    def test_constant_allocation(self):
        for profile in PROFILES:
            for agent, other in ((0, 0), (0, 1), (0, 2), (1, 0), (1, 1)):
                self.assertEqual(answer_after(FIRST, misreport_loss(agent, other, profile)), [0, 0])

    def test_middle_of_three_agents(self):
        calls = [create(3, 2), add_type(0, [0, 0]), add_type(1, [0, 1]), add_type(1, [9, 0]),
                 add_type(2, [0, 0]), add_type(2, [0, 0]),
                 set_allocation(1, [0, 0, 1]), set_allocation(1, [0, 1, 0])]
        self.assertEqual(answer_after(calls, misreport_loss(1, 1, [0, 0, 0])), [0, -1])
        self.assertEqual(answer_after(calls, misreport_loss(1, 1, [0, 0, 1])), [0, 1])
        self.assertEqual(answer_after(calls, misreport_loss(1, 0, [0, 1, 0])), [0, -9])


class MisreportLossRefused(unittest.TestCase):
    def test_no_such_agent(self):
        for agent in (2, 3, 255, LARGEST):
            for other in (0, LARGEST):
                self.assertEqual(answer_after(READY, misreport_loss(agent, other, [0, 0])), NO_SUCH_MEMBER)

    def test_no_such_type_of_this_agent(self):
        for other in (3, 4, LARGEST):
            self.assertEqual(answer_after(READY, misreport_loss(0, other, [0, 0])), NO_SUCH_MEMBER)
        for other in (2, 3, LARGEST):
            self.assertEqual(answer_after(READY, misreport_loss(1, other, [0, 0])), NO_SUCH_MEMBER)

    def test_no_profile(self):
        for profile in ([], [0], [0, 0, 0], [0] * 8, [3, 0], [0, 2], [LARGEST, 0], [0, LARGEST]):
            for agent in (0, 1):
                self.assertEqual(answer_after(READY, misreport_loss(agent, 1, profile)), INVALID)

    def test_agent_and_type_are_checked_ahead_of_the_profile(self):
        for profile in ([], [0], [0, 0, 0], [3, 0], [0, 2], [LARGEST] * 8):
            for agent, other in ((2, 0), (LARGEST, 0), (0, 3), (1, 2), (1, LARGEST)):
                self.assertEqual(answer_after(READY, misreport_loss(agent, other, profile)), NO_SUCH_MEMBER)

    def test_leaves_the_state(self):
        asked = [misreport_loss(0, 1, [0, 0]), misreport_loss(0, 2, [2, 1]), misreport_loss(1, 0, [1, 1]),
                 misreport_loss(2, 0, [0, 0]), misreport_loss(0, 3, [0, 0]), misreport_loss(1, 1, [3, 0])]
        for first in (READY, READY + [use_welfare_maximizer()]):
            expected = run(first + probe([3, 2], 3))[len(first):]
            for call in asked:
                self.assertEqual(run(first + [call] + probe([3, 2], 3))[len(first) + 1:], expected)


if __name__ == "__main__":
    unittest.main()
