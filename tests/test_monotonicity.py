"""Operations 8 and 9, is_cyclically_monotonic and is_weakly_monotonic."""

import itertools
import unittest

from tests.helper import (
    add_type, allocate_all, answer_after, begun, begun_with_losses, create, is_cyclically_monotonic,
    is_weakly_monotonic, profiles, run, set_allocation, use_agent_maximizer, use_welfare_maximizer)

# All cycles of four types, in the document's order.
CYCLES = [
    [0, 1], [0, 2], [0, 3], [1, 2], [1, 3], [2, 3],
    [0, 1, 2], [0, 1, 3], [0, 2, 1], [0, 2, 3], [0, 3, 1], [0, 3, 2], [1, 2, 3], [1, 3, 2],
    [0, 1, 2, 3], [0, 1, 3, 2], [0, 2, 1, 3], [0, 2, 3, 1], [0, 3, 1, 2], [0, 3, 2, 1],
]


def edges(cycle):
    """The losses that a cycle adds up, each as the type and what it reports."""
    return [(cycle[(place + 1) % len(cycle)], kind) for place, kind in enumerate(cycle)]


def losses_with(marked, value, others, count=4):
    """Losses of so many types: the value where marked, the others elsewhere, 0 by an honest report."""
    found = [[0] * count for kind in range(count)]
    for kind in range(count):
        for reported in range(count):
            if kind != reported:
                found[kind][reported] = value if (kind, reported) in marked else others
    return found


def both_after(calls):
    """The answers of the operations 8 and 9 after the calls."""
    return run(calls + [is_cyclically_monotonic(), is_weakly_monotonic()])[-2:]


class Monotonic(unittest.TestCase):
    def test_one_agent_with_one_type(self):
        for alternative in (0, 1):
            self.assertEqual(both_after(begun([[[-4, 9]]]) + [set_allocation(alternative, [0])]), [[1], [1]])

    def test_agents_with_one_type_each(self):
        calls = begun([[[5, 0, 1]], [[-5, 2, 2]], [[0, 0, 9]]]) + [set_allocation(1, [0, 0, 0])]
        self.assertEqual(both_after(calls), [[1], [1]])

    def test_constant_allocation(self):
        types = [[[0, 9, 3], [-7, 50, 2], [4, -4, 0]], [[1, 2, 3], [3, 2, 1]]]
        self.assertEqual(both_after(begun(types)), [[1], [1]])
        for alternative in range(3):
            calls = begun(types) + allocate_all([alternative] * 6, [3, 2])
            self.assertEqual(both_after(calls), [[1], [1]])

    def test_constant_again_after_add_type(self):
        calls = begun([[[0, 1], [1, 0]]]) + [set_allocation(1, [1])]
        self.assertEqual(both_after(calls), [[0, 0, 0, 0, 1]] * 2)
        self.assertEqual(both_after(calls + [add_type(0, [7, 8])]), [[1], [1]])

    def test_two_types_with_the_same_values(self):
        # Whatever they are allocated, what the one loses the other gains.
        for alternatives in itertools.product(range(3), repeat=2):
            calls = begun([[[3, -8, 1], [3, -8, 1]]]) + allocate_all(alternatives, [2])
            self.assertEqual(both_after(calls), [[1], [1]])

    def test_two_types_with_the_same_values_beside_a_third(self):
        # The types 1 and 2 want alternative 1 more than type 0 does.
        expected = {(0, 0, 0): [1], (0, 0, 1): [1], (0, 1, 0): [1], (0, 1, 1): [1],
                    (1, 0, 0): [0, 0, 0, 0, 1], (1, 0, 1): [0, 0, 0, 0, 1], (1, 1, 0): [0, 0, 0, 0, 2],
                    (1, 1, 1): [1]}
        for alternatives, answer in expected.items():
            calls = begun([[[0, -1], [0, 2], [0, 2]]]) + allocate_all(alternatives, [3])
            self.assertEqual(both_after(calls), [answer, answer])

    def test_length_of_0_is_not_negative(self):
        for cycle in CYCLES:
            self.assertEqual(both_after(begun_with_losses(losses_with(edges(cycle), 0, 9))), [[1], [1]])
        for losses in ([[0, 5], [-5, 0]], [[0, -5], [5, 0]], [[0, 0], [0, 0]]):
            self.assertEqual(both_after(begun_with_losses(losses)), [[1], [1]])

    def test_length_just_below_0(self):
        for losses in ([[0, 5], [-6, 0]], [[0, -6], [5, 0]], [[0, 0], [-1, 0]], [[0, -1], [0, 0]]):
            self.assertEqual(both_after(begun_with_losses(losses)), [[0, 0, 0, 0, 1]] * 2)

    def test_greatest_and_least_values(self):
        self.assertEqual(both_after(begun([[[50, -50], [-50, 50]]]) + [set_allocation(1, [0])]), [[0, 0, 0, 0, 1]] * 2)
        self.assertEqual(both_after(begun([[[50, -50], [-50, 50]]]) + [set_allocation(1, [1])]), [[1], [1]])

    def test_negative_values(self):
        types = [[[-1, -3], [-3, -1]], [[-2, -2]]]
        self.assertEqual(both_after(begun(types) + [use_welfare_maximizer()]), [[1], [1]])
        self.assertEqual(both_after(begun(types) + allocate_all([1, 0], [2, 1])), [[0, 0, 0, 0, 0, 1]] * 2)

    def test_the_sum_alone_counts(self):
        self.assertEqual(both_after(begun_with_losses([[0, 3], [2, 0]])), [[1], [1]])
        self.assertEqual(both_after(begun_with_losses([[0, -3], [4, 0]])), [[1], [1]])
        self.assertEqual(both_after(begun_with_losses([[0, -4], [3, 0]])), [[0, 0, 0, 0, 1]] * 2)


class FirstCycle(unittest.TestCase):
    def test_the_only_negative_one(self):
        for cycle in CYCLES:
            losses = losses_with(edges(cycle), -1, 9)
            strict = [0, 0, 0] + cycle
            self.assertEqual(both_after(begun_with_losses(losses)), [strict, strict if len(cycle) == 2 else [1]])

    def test_the_first_of_two_or_more(self):
        for two in itertools.combinations(CYCLES, 2):
            marked = edges(two[0]) + edges(two[1])
            negative = [cycle for cycle in CYCLES if all(edge in marked for edge in edges(cycle))]
            weak = [0, 0, 0] + negative[0] if len(negative[0]) == 2 else [1]
            given = both_after(begun_with_losses(losses_with(marked, -1, 9)))
            self.assertEqual(given, [[0, 0, 0] + negative[0], weak])

    def test_three_types_without_a_negative_one_of_two(self):
        # Type 1 gains by reporting 0, type 2 by reporting 1, type 0 by reporting 2.
        calls = begun([[[0, -1, 1], [1, 0, -1], [-1, 1, 0]]]) + allocate_all([0, 1, 2], [3])
        self.assertEqual(both_after(calls), [[0, 0, 0, 0, 1, 2], [1]])

    def test_three_types_the_other_way_round(self):
        calls = begun([[[0, 1, -1], [-1, 0, 1], [1, -1, 0]]]) + allocate_all([0, 1, 2], [3])
        self.assertEqual(both_after(calls), [[0, 0, 0, 0, 2, 1], [1]])

    def test_four_types_without_a_negative_one_of_fewer(self):
        losses = [[0, 1, 5, -1], [-1, 0, 1, 5], [5, -1, 0, 1], [1, 5, -1, 0]]
        self.assertEqual(both_after(begun_with_losses(losses)), [[0, 0, 0, 0, 1, 2, 3], [1]])
        turned = [list(row) for row in zip(*losses)]
        self.assertEqual(both_after(begun_with_losses(turned)), [[0, 0, 0, 0, 3, 2, 1], [1]])

    def test_fewer_types_come_first_though_they_are_not_the_lowest(self):
        marked = edges([0, 1, 2]) + edges([2, 3])
        given = both_after(begun_with_losses(losses_with(marked, -1, 9)))
        self.assertEqual(given, [[0, 0, 0, 2, 3]] * 2)

    def test_first_is_not_least(self):
        # The cycle of 0 and 2 is shorter than that of 0 and 1, but comes behind it.
        losses = [[0, -1, -9], [0, 0, 0], [0, 0, 0]]
        self.assertEqual(both_after(begun_with_losses(losses)), [[0, 0, 0, 0, 1]] * 2)


class FirstAgentAndProfile(unittest.TestCase):
    def test_every_allocation_of_three_agents_with_two_types(self):
        # Type 0 wants alternative 1, type 1 wants 0: they are harmed if each gets the other's.
        start = begun([[[0, 1], [1, 0]]] * 3)
        order = profiles([2, 2, 2])
        for alternatives in itertools.product(range(2), repeat=8):
            chosen = {tuple(profile): alternative for profile, alternative in zip(order, alternatives)}
            expected = [1]
            for agent in (2, 1, 0):
                for base in reversed([tuple(profile) for profile in order if profile[agent] == 0]):
                    other = tuple(1 if place == agent else kind for place, kind in enumerate(base))
                    if chosen[base] == 0 and chosen[other] == 1:
                        expected = [0, agent] + list(base) + [0, 1]
            self.assertEqual(both_after(start + allocate_all(alternatives, [2, 2, 2])), [expected, expected])

    def test_the_first_agent_though_another_has_one_at_an_earlier_profile(self):
        # Agent 1 is harmed at [0, 0], agent 0 at [0, 1].
        start = begun([[[0, 1], [1, 0]], [[0, 1], [1, 0], [1, 0]]])
        calls = start + allocate_all([0, 1, 0, 0, 0, 1], [2, 3])
        self.assertEqual(both_after(calls), [[0, 0, 0, 2, 0, 1]] * 2)
        calls = start + allocate_all([0, 1, 0, 0, 1, 0], [2, 3])
        self.assertEqual(both_after(calls), [[0, 1, 0, 0, 0, 1]] * 2)

    def test_the_first_profile_though_a_later_one_has_fewer_types(self):
        # At [0, 0] there is a cycle of three types alone, at [0, 1] one of two types.
        types = [[[0, -1, 1], [1, 0, -1], [-1, 1, 0]], [[0, 0, 0], [0, 0, 0]]]
        calls = begun(types) + allocate_all([0, 1, 1, 0, 2, 0], [3, 2])
        self.assertEqual(both_after(calls), [[0, 0, 0, 0, 0, 1, 2], [0, 0, 0, 1, 0, 2]])

    def test_the_first_agent_though_a_later_one_has_fewer_types(self):
        types = [[[0, -1, 1], [1, 0, -1], [-1, 1, 0]], [[0, 1, 1], [1, 0, 1]]]
        calls = begun(types) + allocate_all([0, 1, 1, 1, 2, 1], [3, 2])
        self.assertEqual(both_after(calls), [[0, 0, 0, 0, 0, 1, 2], [0, 1, 0, 0, 0, 1]])

    def test_the_profile_is_a_base_profile_of_the_agent(self):
        # Only the types 1 and 2 of agent 1 are in a negative cycle.
        calls = begun([[[0, 0], [0, 0]], [[0, 0], [0, 1], [0, 0]]]) + [set_allocation(1, [1, 2])]
        self.assertEqual(both_after(calls), [[0, 1, 1, 0, 1, 2]] * 2)

    def test_three_agents_with_four_types_each(self):
        none = [[0, 0, 0, 0]] * 4
        types = [none, none, [[0, 0, 0, 0], [0, 0, 0, 0], [0, 5, 0, 0], [0, 0, 0, 0]]]
        calls = begun(types) + [set_allocation(1, [3, 3, 3])]
        self.assertEqual(both_after(calls), [[0, 2, 3, 3, 0, 2, 3]] * 2)
        calls = calls + [set_allocation(1, [3, 3, 2])]
        self.assertEqual(both_after(calls), [[1], [1]])
        calls = calls + [set_allocation(1, [1, 2, 1])]
        self.assertEqual(both_after(calls), [[0, 2, 1, 2, 0, 1, 2]] * 2)

    def test_three_agents_with_four_types_each_and_a_cycle_of_four(self):
        none = [[0, 0, 0, 0]] * 4
        losses = [[0, 1, 5, -1], [-1, 0, 1, 5], [5, -1, 0, 1], [1, 5, -1, 0]]
        types = [none, [[-loss for loss in row] for row in losses], none]
        calls = begun(types) + [set_allocation(number, [2, number, 1]) for number in range(4)]
        self.assertEqual(both_after(calls), [[0, 1, 2, 0, 1, 0, 1, 2, 3], [1]])

    def test_after_rules(self):
        types = [[[0, 10], [0, 4]], [[6, 0], [-3, 0]]]
        for rule in (use_welfare_maximizer(), use_agent_maximizer(0), use_agent_maximizer(1)):
            self.assertEqual(both_after(begun(types) + [rule]), [[1], [1]])

    def test_one_agent_wants_what_another_is_given(self):
        # The maximizer of agent 0 is no harm to agent 1, whose report changes nothing.
        types = [[[9, 0], [0, 9]], [[0, 9], [9, 0]]]
        calls = begun(types) + [use_agent_maximizer(0)]
        self.assertEqual(both_after(calls), [[1], [1]])
        self.assertEqual(both_after(calls + [set_allocation(0, [1, 1])]), [[1], [1]])
        self.assertEqual(both_after(calls + [set_allocation(1, [0, 1])]), [[0, 1, 0, 0, 0, 1]] * 2)


class Again(unittest.TestCase):
    def test_asked_twice(self):
        calls = begun([[[0, 1], [1, 0]]]) + [set_allocation(1, [1])]
        for ask in (is_cyclically_monotonic(), is_weakly_monotonic()):
            self.assertEqual(run(calls + [ask, ask])[-2:], [[0, 0, 0, 0, 1]] * 2)

    def test_after_a_second_create(self):
        calls = begun([[[0, 1], [1, 0]]]) + [set_allocation(1, [1]), create(1, 2), add_type(0, [0, 1])]
        self.assertEqual(answer_after(calls, is_cyclically_monotonic()), [1])


if __name__ == "__main__":
    unittest.main()
