"""Operation 1, add_type."""

import unittest

from tests.helper import (
    INVALID, LARGEST, LARGEST_VALUE, NO_SUCH_MEMBER, SMALLEST_VALUE, TOO_MANY_TYPES,
    add_type, allocation, allocations_after, answer_after, create, misreport_loss, probe, run,
    set_allocation, use_agent_maximizer, use_welfare_maximizer)

BAD_VALUES = [
    [], [0], [0, 0, 0], [0] * 8, [51, 0], [0, 51], [-51, 0], [0, -51],
    [LARGEST_VALUE, 0], [0, LARGEST_VALUE], [SMALLEST_VALUE, 0], [0, SMALLEST_VALUE],
    [LARGEST_VALUE] * 8, [100, -100],
]


class AddType(unittest.TestCase):
    def test_numbers_count_for_each_agent_by_itself(self):
        calls = [create(3, 2)]
        expected = [[0]]
        for number in range(4):
            for agent in (2, 0, 1):
                calls.append(add_type(agent, [number, agent]))
                expected.append([number])
        self.assertEqual(run(calls), expected)

    def test_values_at_the_limits(self):
        for values in ([50, -50], [-50, 50], [50, 50], [-50, -50], [0, 0]):
            self.assertEqual(run([create(1, 2), add_type(0, values)]), [[0], [0]])

    def test_values_are_kept_for_each_alternative(self):
        calls = [create(1, 4), add_type(0, [50, -50, 7, -1]), add_type(0, [0, 0, 0, 0])]
        for alternative, loss in enumerate([0, 100, 43, 51]):
            given = answer_after(calls + [set_allocation(alternative, [1])], misreport_loss(0, 1, [0]))
            self.assertEqual(given, [0, loss])

    def test_two_types_with_the_same_values(self):
        calls = [create(1, 2), add_type(0, [3, 4]), add_type(0, [3, 4])]
        self.assertEqual(run(calls), [[0], [0], [1]])
        self.assertEqual(allocations_after(calls + [set_allocation(1, [1])], [2]), [0, 1])

    def test_allocation_is_0_once_the_instance_is_ready(self):
        calls = [create(2, 2), add_type(0, [0, 9]), add_type(0, [0, 9]), add_type(1, [0, 9])]
        self.assertEqual(allocations_after(calls, [2, 1]), [0, 0])

    def test_allocation_of_every_profile_becomes_0(self):
        first = [create(2, 3), add_type(0, [0, 1, 2]), add_type(0, [0, 2, 1]),
                 add_type(1, [0, 5, 5]), use_welfare_maximizer()]
        self.assertEqual(allocations_after(first, [2, 1]), [2, 1])
        self.assertEqual(allocations_after(first + [add_type(0, [0, 9, 0])], [3, 1]), [0, 0, 0])
        self.assertEqual(allocations_after(first + [add_type(1, [0, 9, 0])], [2, 2]), [0, 0, 0, 0])

    def test_allocation_becomes_0_though_the_type_is_like_another(self):
        first = [create(1, 2), add_type(0, [0, 1]), set_allocation(1, [0]), add_type(0, [0, 1])]
        self.assertEqual(allocations_after(first, [2]), [0, 0])

    def test_all_twelve_types(self):
        calls = [create(3, 4)]
        for agent in range(3):
            for number in range(4):
                calls.append(add_type(agent, [number, -number, agent, 50]))
        self.assertEqual(run(calls)[1:], [[number] for agent in range(3) for number in range(4)])
        self.assertEqual(allocations_after(calls, [4, 4, 4]), [0] * 64)


class AddTypeRefused(unittest.TestCase):
    def test_no_such_agent(self):
        for agent_count in (1, 2, 3):
            for agent in (agent_count, agent_count + 1, 4, 255, 256, LARGEST):
                self.assertEqual(run([create(agent_count, 2), add_type(agent, [0, 0])])[-1], NO_SUCH_MEMBER)

    def test_bad_values(self):
        for values in BAD_VALUES:
            self.assertEqual(run([create(2, 2), add_type(1, values)])[-1], INVALID)

    def test_each_length_and_each_place(self):
        for alternative_count in (2, 3, 4):
            for length in range(9):
                given = answer_after([create(1, alternative_count)], add_type(0, [1] * length))
                self.assertEqual(given, [0] if length == alternative_count else INVALID)
            for place in range(alternative_count):
                for value in (51, -51):
                    values = [0] * alternative_count
                    values[place] = value
                    self.assertEqual(answer_after([create(1, alternative_count)], add_type(0, values)), INVALID)

    def test_fifth_type(self):
        for agent in range(3):
            calls = [create(3, 2)] + [add_type(agent, [number, 0]) for number in range(4)]
            self.assertEqual(run(calls)[-1], [3])
            self.assertEqual(answer_after(calls, add_type(agent, [1, 1])), TOO_MANY_TYPES)
            self.assertEqual(answer_after(calls, add_type((agent + 1) % 3, [1, 1])), [0])

    def test_agent_is_checked_ahead_of_values(self):
        for values in BAD_VALUES:
            self.assertEqual(run([create(2, 2), add_type(2, values)])[-1], NO_SUCH_MEMBER)
            self.assertEqual(run([create(2, 2), add_type(LARGEST, values)])[-1], NO_SUCH_MEMBER)

    def test_values_are_checked_ahead_of_a_fifth_type(self):
        calls = [create(1, 2)] + [add_type(0, [number, 0]) for number in range(4)]
        for values in BAD_VALUES:
            self.assertEqual(answer_after(calls, add_type(0, values)), INVALID)

    def test_leaves_the_state(self):
        first = [create(2, 2), add_type(0, [0, 4]), add_type(0, [1, 0]), add_type(0, [2, 2]),
                 add_type(0, [-3, 3]), add_type(1, [0, 1]), add_type(1, [5, 0]), use_agent_maximizer(0)]
        refused = [add_type(2, [0, 0]), add_type(LARGEST, []), add_type(0, [1, 1])]
        refused.extend([add_type(1, values) for values in BAD_VALUES])
        refused.extend([add_type(0, values) for values in BAD_VALUES])
        expected = run(first + probe([4, 2], 2))[len(first):]
        self.assertEqual(expected[:9], [[2, 2, 4, 2], [1], [1], [0], [0], [0], [0], [1], [1]])
        for call in refused:
            calls = first + [call]
            self.assertLess(run(calls)[-1][0], 0)
            self.assertEqual(run(calls + probe([4, 2], 2))[len(calls):], expected)

    def test_a_refused_one_makes_no_agent_ready(self):
        calls = [create(1, 2), add_type(0, [51, 0]), add_type(0, [0]), add_type(1, [0, 0])]
        self.assertEqual(answer_after(calls, allocation([0])), [-16])
        self.assertEqual(answer_after(calls, add_type(0, [0, 0])), [0])


if __name__ == "__main__":
    unittest.main()
