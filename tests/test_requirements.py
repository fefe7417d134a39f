"""Points 1 to 5 of the document's requirements, over many instances; point 6 is in test_state.py."""

import itertools
import unittest

from tests.helper import (
    Numbers, allocate_all, are_truthful_payments, begun, is_cyclically_monotonic, is_weakly_monotonic,
    payment_bounds, pivot_payments, profiles, run, use_affine_maximizer, use_welfare_maximizer, welfare,
    with_report)


def answers_after(calls, asked):
    """The answers to the calls that are asked after the others, in lists of as many as a request may have."""
    found = []
    room = 400 - len(calls)
    for start in range(0, len(asked), room):
        found.extend(run(calls + asked[start:start + room])[len(calls):])
    return found


def bases(type_counts, agent):
    """The profiles in which the agent reports type 0."""
    return [profile for profile in profiles(type_counts) if profile[agent] == 0]


def bounds_at(calls, agent, base, count):
    """The answers of payment_bounds for each type of the agent, the others as in the profile."""
    return answers_after(calls, [payment_bounds(agent, with_report(base, agent, kind)) for kind in range(count)])


def truthful_at(calls, agent, base, boxes):
    """All truthful payments of the agent at the profile with each type's payment in its box."""
    candidates = [list(payments) for payments in itertools.product(*boxes)]
    given = answers_after(calls, [are_truthful_payments(agent, base, payments) for payments in candidates])
    return [payments for payments, answer in zip(candidates, given) if answer == [1]]


def random_allocation(numbers, type_counts, alternative_count):
    return allocate_all([numbers.below(alternative_count) for profile in profiles(type_counts)], type_counts)


def affine_maximizer(numbers, agent_count, alternative_count):
    """An affine maximizer, every third weight of which is 0."""
    weights = [numbers.below(100) * min(1, numbers.below(3)) for agent in range(agent_count)]
    limit = (1, 10, 100)[numbers.below(3)]
    return use_affine_maximizer(weights + [numbers.below(limit) for place in range(alternative_count)])


def types_of_all(numbers, most_types, most_alternatives):
    """How many types each agent has, and the values of these types."""
    type_counts = numbers.type_counts(most_types)
    alternative_count = numbers.between(2, most_alternatives)
    return type_counts, numbers.types(type_counts, alternative_count, (1, 4, 50)[numbers.below(3)])


def rule_with_changes(numbers, type_counts, alternative_count):
    """An affine maximizer with the first few profiles changed, which is often monotonic and often not."""
    calls = [affine_maximizer(numbers, len(type_counts), alternative_count)]
    return calls + random_allocation(numbers, type_counts, alternative_count)[:numbers.below(3)]


def mixed_instance(seed, most_alternatives):
    """How many types there are, and calls that begin an instance with one allocation or another."""
    numbers = Numbers(seed)
    type_counts, types = types_of_all(numbers, (2, 4)[seed % 2], most_alternatives)
    change = (random_allocation, rule_with_changes)[seed % 2]
    return type_counts, begun(types) + change(numbers, type_counts, len(types[0][0]))


class Rochet(unittest.TestCase):
    """Point 1: truthful payments everywhere if and only if the allocation is cyclically monotonic."""

    def test_bounds_everywhere_just_if_cyclically_monotonic(self):
        counted = {0: 0, 1: 0}
        for seed in range(300):
            type_counts, calls = mixed_instance(seed, 4)
            asked = [payment_bounds(agent, profile) for agent in range(len(type_counts))
                     for profile in profiles(type_counts)]
            result, *bounds = answers_after(calls, [is_cyclically_monotonic()] + asked)
            self.assertEqual(result[0], int([-33] not in bounds))
            counted[result[0]] += 1
            if result[0] == 0:
                agent, base = result[1], result[2:2 + len(type_counts)]
                # The first violation is where payments are refused first.
                self.assertEqual(asked[bounds.index([-33])], payment_bounds(agent, base))
        self.assertGreater(min(counted.values()), 50)

    def test_searched_for_one_by_one(self):
        counted = {0: 0, 1: 0}
        for seed in range(120):
            numbers = Numbers(seed)
            count = numbers.between(2, 3)
            types = numbers.types([count, 2], 3, 1)
            calls = begun(types) + random_allocation(numbers, [count, 2], 3)
            # No loss is beyond 2, so no payment beyond 2 is truthful where type 0 pays 0.
            everywhere = True
            for agent, types_of_agent in enumerate(types):
                boxes = [[0]] + [range(-3, 4)] * (len(types_of_agent) - 1)
                for base in bases([count, 2], agent):
                    if not truthful_at(calls, agent, base, boxes):
                        everywhere = False
            result = answers_after(calls, [is_cyclically_monotonic()])[0][0]
            self.assertEqual(result, int(everywhere))
            counted[result] += 1
        self.assertGreater(min(counted.values()), 10)


class ExactBounds(unittest.TestCase):
    """Point 2: the greatest payments are truthful, the least are, and all truthful ones lie between."""

    def test_greatest_and_least_are_truthful_and_none_goes_farther(self):
        for seed in range(300):
            type_counts, calls = mixed_instance(seed, 4)
            for agent, count in enumerate(type_counts):
                for base in bases(type_counts, agent)[:4]:
                    bounds = bounds_at(calls, agent, base, count)
                    if [-33] in bounds:
                        self.assertEqual(bounds, [[-33]] * count)
                    else:
                        self.check_ends(calls, agent, base, bounds)

    def check_ends(self, calls, agent, base, bounds):
        greatest, least = [row[1] for row in bounds], [row[2] for row in bounds]
        self.assertEqual((greatest[0], least[0]), (0, 0))
        asked = [are_truthful_payments(agent, base, greatest), are_truthful_payments(agent, base, least)]
        for kind in range(1, len(bounds)):
            # One more or one less for this type alone is not truthful.
            asked.append(are_truthful_payments(agent, base, with_report(greatest, kind, greatest[kind] + 1)))
            asked.append(are_truthful_payments(agent, base, with_report(least, kind, least[kind] - 1)))
            self.assertLessEqual(least[kind], greatest[kind])
        self.assertEqual(answers_after(calls, asked), [[1], [1]] + [[0]] * (len(asked) - 2))

    def test_all_truthful_payments_of_three_types(self):
        self.compare_with_all(3, 5, 120)

    def test_all_truthful_payments_of_four_types(self):
        self.compare_with_all(4, 2, 60)

    def compare_with_all(self, count, greatest_loss, seeds):
        found = 0
        for seed in range(seeds):
            numbers = Numbers(seed)
            types = [[[numbers.below(greatest_loss + 1) for place in range(3)] for kind in range(count)]]
            calls = begun(types)
            if seed % 3:
                calls.append(affine_maximizer(numbers, 1, 3))
            else:
                calls.extend(random_allocation(numbers, [count], 3))
            boxes = [[0]] + [range(-greatest_loss - 1, greatest_loss + 2)] * (count - 1)
            truthful = truthful_at(calls, 0, [0], boxes)
            bounds = bounds_at(calls, 0, [0], count)
            if truthful:
                ends = [[0, max(column), min(column)] for column in zip(*truthful)]
                self.assertEqual(bounds, ends)
                self.assertIn([row[1] for row in bounds], truthful)
                self.assertIn([row[2] for row in bounds], truthful)
                found += 1
            else:
                self.assertEqual(bounds, [[-33]] * count)
        self.assertGreater(found, seeds // 2)


class AffineMaximizers(unittest.TestCase):
    """Point 3: directly after operation 4 or 5 the allocation is cyclically monotonic."""

    def test_cyclically_monotonic_directly_afterwards(self):
        for seed in range(250):
            numbers = Numbers(seed)
            type_counts, types = types_of_all(numbers, 4, 4)
            alternative_count = len(types[0][0])
            calls = begun(types) + random_allocation(numbers, type_counts, alternative_count)
            asked = [is_cyclically_monotonic(), is_weakly_monotonic()]
            rules = [use_welfare_maximizer(), use_affine_maximizer([0] * (len(type_counts) + alternative_count))]
            rules.extend([affine_maximizer(numbers, len(type_counts), alternative_count) for number in range(4)])
            for rule in rules:
                self.assertEqual(answers_after(calls + [rule], asked), [[1], [1]])


class TwoAlternatives(unittest.TestCase):
    """Point 4: with two alternatives a weakly monotonic allocation is cyclically monotonic."""

    def test_both_answers_are_the_same(self):
        counted = {0: 0, 1: 0}
        for seed in range(600):
            calls = mixed_instance(seed, 2)[1]
            cyclically, weakly = answers_after(calls, [is_cyclically_monotonic(), is_weakly_monotonic()])
            # A negative cycle is behind one of two types of the same agent at the same profile.
            self.assertEqual(cyclically, weakly)
            counted[weakly[0]] += 1
        self.assertGreater(min(counted.values()), 100)

    def test_every_allocation_of_four_types(self):
        types = [[[0, 3], [5, 5], [2, -1], [0, 1]]]
        for alternatives in itertools.product(range(2), repeat=4):
            calls = begun(types) + allocate_all(alternatives, [4])
            cyclically, weakly = answers_after(calls, [is_cyclically_monotonic(), is_weakly_monotonic()])
            self.assertEqual(cyclically, weakly)

    def test_three_alternatives_differ(self):
        calls = begun([[[0, -1, 1], [1, 0, -1], [-1, 1, 0]]]) + allocate_all([0, 1, 2], [3])
        cyclically, weakly = answers_after(calls, [is_cyclically_monotonic(), is_weakly_monotonic()])
        self.assertEqual((cyclically, weakly), ([0, 0, 0, 0, 1, 2], [1]))


class PivotMechanism(unittest.TestCase):
    """Point 5: directly after operation 4 the pivot payments are truthful, not negative, and no loss."""

    def test_directly_after_the_welfare_maximizer(self):
        for seed in range(120):
            type_counts, types = types_of_all(Numbers(seed), 4, 4)
            calls = begun(types) + [use_welfare_maximizer()]
            order = profiles(type_counts)
            given = answers_after(calls, [pivot_payments(profile) for profile in order])
            chosen = [answer[0] for answer in answers_after(calls, [welfare(profile) for profile in order])]
            payments = {}
            for profile, answer, alternative in zip(order, given, chosen):
                self.assertEqual(answer[0], len(type_counts))
                payments[tuple(profile)] = answer[1:]
                for agent, payment in enumerate(answer[1:]):
                    values = types[agent][profile[agent]]
                    self.assertGreaterEqual(payment, 0)
                    self.assertLessEqual(payment, values[alternative] - min(values))
            self.check_truthful(calls, type_counts, payments)

    def check_truthful(self, calls, type_counts, payments):
        asked = []
        for agent, count in enumerate(type_counts):
            for base in bases(type_counts, agent):
                paid = [payments[tuple(with_report(base, agent, kind))][agent] for kind in range(count)]
                asked.append(are_truthful_payments(agent, base, paid))
        self.assertEqual(answers_after(calls, asked), [[1]] * len(asked))

    def test_the_welfare_is_the_greatest(self):
        for seed in range(60):
            type_counts, types = types_of_all(Numbers(seed), 3, 4)
            calls = begun(types) + [use_welfare_maximizer()]
            for answer in answers_after(calls, [welfare(profile) for profile in profiles(type_counts)]):
                self.assertEqual(answer[1], answer[2])

    def test_pivot_payments_need_not_be_truthful_otherwise(self):
        # Agent 0 with [0, 10] and [0, 4] against [6, 0], with alternative 0 and 1 exchanged.
        calls = begun([[[0, 10], [0, 4]], [[6, 0]]]) + allocate_all([0, 1], [2, 1])
        given = answers_after(calls, [pivot_payments([0, 0]), pivot_payments([1, 0]),
                                      are_truthful_payments(0, [0, 0], [0, 6])])
        self.assertEqual(given, [[2, 0, 10], [2, 6, 0], [0]])


if __name__ == "__main__":
    unittest.main()
