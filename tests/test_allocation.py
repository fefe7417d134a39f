"""Operations 2 and 3, set_allocation and allocation."""

import unittest

from tests.helper import (
    INVALID, LARGEST, add_type, allocation, allocations_after, answer_after, create, probe,
    profiles, run, set_allocation, use_welfare_maximizer)

# Agent 0 has two types, agent 1 one, agent 2 three.
UNEVEN = [create(3, 3), add_type(0, [0, 1, 2]), add_type(0, [5, 1, 2]), add_type(1, [0, -1, 0]),
          add_type(2, [0, 3, 0]), add_type(2, [0, 3, 9]), add_type(2, [-9, -8, -7])]
COUNTS = [2, 1, 3]

NO_PROFILES = [
    [], [0], [0, 0], [0, 0, 0, 0], [0] * 8,
    [2, 0, 0], [0, 1, 0], [0, 0, 3], [1, 0, 4], [3, 0, 0],
    [LARGEST, 0, 0], [0, LARGEST, 0], [0, 0, LARGEST], [LARGEST] * 3, [1, 0, 2, 0], [1, 0],
]


class SetAllocation(unittest.TestCase):
    def test_answers_the_previous_one(self):
        calls = [set_allocation(2, [1, 0, 2]), set_allocation(1, [1, 0, 2]), set_allocation(1, [1, 0, 2]),
                 set_allocation(0, [1, 0, 2]), allocation([1, 0, 2])]
        self.assertEqual(run(UNEVEN + calls)[len(UNEVEN):], [[0], [2], [1], [1], [0]])

    def test_answers_what_a_rule_allocated(self):
        calls = UNEVEN + [use_welfare_maximizer()]
        before = allocations_after(calls, COUNTS)
        for profile, alternative in zip(profiles(COUNTS), before):
            self.assertEqual(answer_after(calls, set_allocation(0, profile)), [alternative])

    def test_sets_one_profile_alone(self):
        for place, profile in enumerate(profiles(COUNTS)):
            for alternative in range(3):
                expected = [0] * 6
                expected[place] = alternative
                self.assertEqual(allocations_after(UNEVEN + [set_allocation(alternative, profile)], COUNTS), expected)

    def test_every_profile_has_its_own(self):
        calls = [create(3, 4)]
        for agent in range(3):
            calls.extend([add_type(agent, [0, 0, 0, 0])] * 4)
        expected = []
        for place, profile in enumerate(profiles([4, 4, 4])):
            expected.append((place * 7 + place // 4 + place // 16) % 4)
            calls.append(set_allocation(expected[-1], profile))
        self.assertEqual(allocations_after(calls, [4, 4, 4]), expected)

    def test_each_alternative_and_those_just_beyond(self):
        for alternative_count in (2, 3, 4):
            calls = [create(1, alternative_count), add_type(0, [0] * alternative_count)]
            for alternative in range(7):
                given = answer_after(calls, set_allocation(alternative, [0]))
                self.assertEqual(given, [0] if alternative < alternative_count else INVALID)
            self.assertEqual(answer_after(calls, set_allocation(LARGEST, [0])), INVALID)

    def test_no_profile(self):
        for profile in NO_PROFILES:
            self.assertEqual(answer_after(UNEVEN, set_allocation(1, profile)), INVALID)
            self.assertEqual(answer_after(UNEVEN, set_allocation(3, profile)), INVALID)

    def test_one_agent_with_one_type(self):
        calls = [create(1, 2), add_type(0, [0, 0]), set_allocation(1, [0])]
        self.assertEqual(run(calls)[-1], [0])
        self.assertEqual(answer_after(calls, allocation([0])), [1])
        for profile in ([], [1], [0, 0], [LARGEST]):
            self.assertEqual(answer_after(calls, set_allocation(0, profile)), INVALID)

    def test_a_refused_one_leaves_the_state(self):
        first = UNEVEN + [use_welfare_maximizer(), set_allocation(1, [1, 0, 2])]
        expected = run(first + probe(COUNTS, 3))[len(first):]
        refused = [set_allocation(0, profile) for profile in NO_PROFILES]
        refused.extend([set_allocation(3, [0, 0, 0]), set_allocation(LARGEST, [1, 0, 2])])
        for call in refused:
            calls = first + [call]
            self.assertEqual(run(calls)[-1], INVALID)
            self.assertEqual(run(calls + probe(COUNTS, 3))[len(calls):], expected)


class Allocation(unittest.TestCase):
    def test_of_every_profile(self):
        calls = UNEVEN + [set_allocation(place % 3, profile) for place, profile in enumerate(profiles(COUNTS))]
        self.assertEqual(allocations_after(calls, COUNTS), [0, 1, 2, 0, 1, 2])

    def test_no_profile(self):
        for profile in NO_PROFILES + [[0] * 12, [LARGEST] * 12]:
            self.assertEqual(answer_after(UNEVEN, allocation(profile)), INVALID)

    def test_leaves_the_state(self):
        first = UNEVEN + [use_welfare_maximizer(), set_allocation(1, [1, 0, 2])]
        expected = run(first + probe(COUNTS, 3))[len(first):]
        for profile in profiles(COUNTS) + NO_PROFILES:
            calls = first + [allocation(profile)]
            self.assertEqual(run(calls + probe(COUNTS, 3))[len(calls):], expected)


if __name__ == "__main__":
    unittest.main()
