"""Operations 4 to 6: use_welfare_maximizer, use_affine_maximizer, use_agent_maximizer."""

import unittest

from tests.helper import (
    INVALID, LARGEST, NO_SUCH_MEMBER, add_type, allocations_after, answer_after, create, probe, run,
    set_allocation, use_affine_maximizer, use_agent_maximizer, use_welfare_maximizer)

# Agent 0 has two types, agent 1 has three; there are three alternatives.
TWO_AGENTS = [create(2, 3), add_type(0, [0, 4, 1]), add_type(0, [-7, -9, -8]),
              add_type(1, [3, 0, 2]), add_type(1, [0, 0, 9]), add_type(1, [-2, -1, -3])]
COUNTS = [2, 3]


class WelfareMaximizer(unittest.TestCase):
    def test_answers_0(self):
        self.assertEqual(answer_after(TWO_AGENTS, use_welfare_maximizer()), [0])

    def test_takes_the_greatest_total_value(self):
        # Totals: [3,4,3] [0,4,10] [-2,3,-2] [-4,-9,-6] [-7,-9,1] [-9,-10,-11].
        self.assertEqual(allocations_after(TWO_AGENTS + [use_welfare_maximizer()], COUNTS), [1, 2, 1, 0, 2, 0])

    def test_ties_go_to_the_lowest_alternative(self):
        calls = [create(1, 4), add_type(0, [1, 5, 5, 5]), add_type(0, [2, 2, 2, 2]), add_type(0, [0, -1, 3, 3]),
                 add_type(0, [-4, -5, -4, -4]), use_welfare_maximizer()]
        self.assertEqual(allocations_after(calls, [4]), [1, 0, 2, 0])

    def test_ties_of_totals(self):
        calls = [create(2, 2), add_type(0, [3, 0]), add_type(0, [-50, 50]), add_type(1, [0, 3]),
                 add_type(1, [50, -50]), use_welfare_maximizer()]
        self.assertEqual(allocations_after(calls, [2, 2]), [0, 0, 1, 0])

    def test_three_agents(self):
        calls = [create(3, 2), add_type(0, [10, 0]), add_type(1, [0, 6]), add_type(2, [0, 3]),
                 add_type(2, [0, 4]), add_type(2, [0, 5]), use_welfare_maximizer()]
        self.assertEqual(allocations_after(calls, [1, 1, 3]), [0, 0, 1])

    def test_all_values_are_negative(self):
        calls = [create(2, 3), add_type(0, [-50, -3, -2]), add_type(1, [-1, -2, -50]), use_welfare_maximizer()]
        self.assertEqual(allocations_after(calls, [1, 1]), [1])

    def test_replaces_what_was_set(self):
        calls = TWO_AGENTS + [set_allocation(0, [0, 0]), set_allocation(1, [1, 2]), use_welfare_maximizer()]
        self.assertEqual(allocations_after(calls, COUNTS), [1, 2, 1, 0, 2, 0])


class AffineMaximizer(unittest.TestCase):
    def after(self, weights_and_boosts):
        calls = TWO_AGENTS + [use_affine_maximizer(weights_and_boosts)]
        self.assertEqual(run(calls)[-1], [0])
        return allocations_after(calls, COUNTS)

    def test_weights_of_1_and_boosts_of_0_are_the_welfare_maximizer(self):
        self.assertEqual(self.after([1, 1, 0, 0, 0]), [1, 2, 1, 0, 2, 0])

    def test_weights(self):
        # 3 * agent 0 + agent 1: [3,12,5] [0,12,12] [-2,11,0] [-18,-27,-22] [-21,-27,-15] [-23,-28,-27].
        self.assertEqual(self.after([3, 1, 0, 0, 0]), [1, 1, 1, 0, 2, 0])
        # agent 0 + 5 * agent 1: [15,4,11] [0,4,46] [-10,-1,-14] [8,-9,2] [-7,-9,37] [-17,-14,-23].
        self.assertEqual(self.after([1, 5, 0, 0, 0]), [0, 2, 1, 0, 2, 1])

    def test_boosts(self):
        # Totals as above, with 2, 1 and 3 beside.
        self.assertEqual(self.after([1, 1, 2, 1, 3]), [2, 2, 1, 0, 2, 0])

    def test_ties_of_boosted_totals(self):
        # [4,4,4] [1,4,11] [-1,3,-1] [-3,-9,-5] [-6,-9,2] [-8,-10,-10].
        self.assertEqual(self.after([1, 1, 1, 0, 1]), [0, 2, 1, 0, 2, 0])

    def test_all_of_0(self):
        self.assertEqual(self.after([0, 0, 0, 0, 0]), [0] * 6)

    def test_weights_of_0_leave_the_boosts(self):
        self.assertEqual(self.after([0, 0, 5, 9, 7]), [1] * 6)
        self.assertEqual(self.after([0, 0, 5, 7, 7]), [1] * 6)
        self.assertEqual(self.after([0, 0, 98, 98, 99]), [2] * 6)

    def test_a_weight_of_0_leaves_the_agent_out(self):
        self.assertEqual(self.after([1, 0, 0, 0, 0]), [1, 1, 1, 0, 0, 0])
        self.assertEqual(self.after([0, 1, 0, 0, 0]), [0, 2, 1, 0, 2, 1])

    def test_weights_and_boosts_of_99(self):
        self.assertEqual(self.after([99, 99, 99, 99, 99]), [1, 2, 1, 0, 2, 0])
        self.assertEqual(self.after([99, 0, 0, 0, 99]), [1, 1, 1, 0, 0, 0])
        # 99 * [-7,-9,-8] with 0, 0, 99 is a tie that goes to alternative 0.
        self.assertEqual(self.after([99, 0, 0, 99, 99]), [1, 1, 1, 0, 0, 0])

    def test_greatest_numbers(self):
        calls = [create(3, 4)] + [add_type(agent, [-50, 50, 50, 50]) for agent in range(3)]
        calls.append(use_affine_maximizer([99, 99, 99, 99, 98, 99, 99]))
        self.assertEqual(allocations_after(calls, [1, 1, 1]), [2])

    def test_length_for_each_count(self):
        for agent_count in (1, 2, 3):
            for alternative_count in (2, 3, 4):
                calls = [create(agent_count, alternative_count)]
                calls.extend([add_type(agent, [0] * alternative_count) for agent in range(agent_count)])
                for length in range(13):
                    given = answer_after(calls, use_affine_maximizer([1] * length))
                    self.assertEqual(given, [0] if length == agent_count + alternative_count else INVALID)

    def test_an_element_beyond_99(self):
        for place in range(5):
            for number in (100, 101, 256, LARGEST):
                numbers = [0] * 5
                numbers[place] = number
                self.assertEqual(answer_after(TWO_AGENTS, use_affine_maximizer(numbers)), INVALID)

    def test_a_refused_one_leaves_the_state(self):
        first = TWO_AGENTS + [use_agent_maximizer(1), set_allocation(2, [1, 2])]
        expected = run(first + probe(COUNTS, 3))[len(first):]
        for numbers in ([], [9] * 4, [9] * 6, [LARGEST] * 12, [100, 0, 9, 9, 9], [9, 0, 0, 0, 100]):
            calls = first + [use_affine_maximizer(numbers)]
            self.assertEqual(run(calls)[-1], INVALID)
            self.assertEqual(run(calls + probe(COUNTS, 3))[len(calls):], expected)


class AgentMaximizer(unittest.TestCase):
    def test_takes_what_the_reported_type_values_most(self):
        self.assertEqual(answer_after(TWO_AGENTS, use_agent_maximizer(0)), [0])
        self.assertEqual(allocations_after(TWO_AGENTS + [use_agent_maximizer(0)], COUNTS), [1, 1, 1, 0, 0, 0])
        self.assertEqual(allocations_after(TWO_AGENTS + [use_agent_maximizer(1)], COUNTS), [0, 2, 1, 0, 2, 1])

    def test_last_of_three_agents(self):
        calls = [create(3, 2), add_type(0, [9, 0]), add_type(1, [9, 0]), add_type(2, [0, 1]), add_type(2, [1, 0]),
                 use_agent_maximizer(2)]
        self.assertEqual(allocations_after(calls, [1, 1, 2]), [1, 0])

    def test_ties_go_to_the_lowest_alternative(self):
        calls = [create(2, 4), add_type(0, [-1, 7, 3, 7]), add_type(0, [0, 0, 0, 0]), add_type(0, [-9, -9, -3, -3]),
                 add_type(1, [0, 0, 0, 50]), use_agent_maximizer(0)]
        self.assertEqual(allocations_after(calls, [3, 1]), [1, 0, 2])

    def test_replaces_what_was_set(self):
        calls = TWO_AGENTS + [use_welfare_maximizer(), use_agent_maximizer(0)]
        self.assertEqual(allocations_after(calls, COUNTS), [1, 1, 1, 0, 0, 0])

    def test_no_such_agent(self):
        for agent_count in (1, 2, 3):
            calls = [create(agent_count, 2)] + [add_type(agent, [0, 1]) for agent in range(agent_count)]
            for agent in range(6):
                given = answer_after(calls, use_agent_maximizer(agent))
                self.assertEqual(given, [0] if agent < agent_count else NO_SUCH_MEMBER)
            self.assertEqual(answer_after(calls, use_agent_maximizer(LARGEST)), NO_SUCH_MEMBER)

    def test_a_refused_one_leaves_the_state(self):
        first = TWO_AGENTS + [use_welfare_maximizer(), set_allocation(2, [1, 2])]
        expected = run(first + probe(COUNTS, 3))[len(first):]
        for agent in (2, 3, LARGEST):
            calls = first + [use_agent_maximizer(agent)]
            self.assertEqual(run(calls + probe(COUNTS, 3))[len(first):], [NO_SUCH_MEMBER] + expected)


if __name__ == "__main__":
    unittest.main()
