"""Operation 14, describe."""

import unittest

from tests.helper import (
    INVALID, NO_INSTANCE, NO_SUCH_MEMBER, TOO_MANY_TYPES, add_type, answer_after, begun, create, describe,
    run, set_allocation, use_welfare_maximizer)


class Describe(unittest.TestCase):
    def test_without_types(self):
        for agent_count in (1, 2, 3):
            for alternative_count in (2, 3, 4):
                given = run([create(agent_count, alternative_count), describe()])[-1]
                self.assertEqual(given, [agent_count, alternative_count] + [0] * agent_count)

    def test_while_an_agent_has_no_type(self):
        calls = [create(3, 2), add_type(2, [0, 0]), add_type(2, [1, 0]), add_type(0, [0, 1])]
        self.assertEqual(answer_after(calls, describe()), [3, 2, 1, 0, 2])

    def test_after_each_type(self):
        calls = [create(3, 2)]
        expected = [[0]]
        counts = [0, 0, 0]
        for number in range(4):
            for agent in (1, 0, 2):
                calls.extend([add_type(agent, [number, 7]), describe()])
                counts[agent] += 1
                expected.extend([[number], [3, 2] + counts])
        self.assertEqual(run(calls), expected)

    def test_two_types_with_the_same_values_count_twice(self):
        self.assertEqual(answer_after(begun([[[3, 4], [3, 4]], [[3, 4]]]), describe()), [2, 2, 2, 1])

    def test_what_was_refused_does_not_count(self):
        calls = [create(2, 3)] + [add_type(1, [0, 0, 0])] * 4
        refused = [add_type(1, [0, 0, 0]), add_type(0, [0, 0]), add_type(0, [51, 0, 0]), add_type(2, [0, 0, 0]),
                   create(0, 2), create(1, 5), set_allocation(0, [0, 0])]
        self.assertEqual(run(calls + refused + [describe()])[5:],
                         [TOO_MANY_TYPES, INVALID, INVALID, NO_SUCH_MEMBER, INVALID, INVALID, [-16], [2, 3, 0, 4]])

    def test_a_second_create(self):
        calls = begun([[[0, 1]], [[1, 0]]]) + [create(1, 4)]
        self.assertEqual(answer_after(calls, describe()), [1, 4, 0])
        self.assertEqual(answer_after(calls + [create(3, 2), add_type(1, [0, 0])], describe()), [3, 2, 0, 1, 0])

    def test_the_allocation_makes_no_difference(self):
        calls = begun([[[0, 1], [1, 0]]])
        for call in (set_allocation(1, [1]), use_welfare_maximizer()):
            self.assertEqual(answer_after(calls + [call], describe()), [1, 2, 2])

    def test_no_instance(self):
        self.assertEqual(run([describe()]), [NO_INSTANCE])
        self.assertEqual(run([create(4, 2), describe(), create(1, 1), describe()]),
                         [INVALID, NO_INSTANCE, INVALID, NO_INSTANCE])


if __name__ == "__main__":
    unittest.main()
