"""Long lists of mixed calls, set against a second way to answer them.

The model keeps the allocation by profile and writes the document's formulas out, so
that it has little in common with the program. The calls are made by plain arithmetic,
so that a failure comes again.
"""

import itertools
import unittest

from tests.helper import (
    LARGEST, LARGEST_VALUE, Numbers, SMALLEST_VALUE, add_type, allocation, are_truthful_payments, begun,
    begun_with_losses, create, describe, is_cyclically_monotonic, is_weakly_monotonic, misreport_loss,
    payment_bounds, pivot_payments, profiles, run, set_allocation, use_affine_maximizer, use_agent_maximizer,
    use_welfare_maximizer, welfare)


class Model:
    """The document's state and its operations."""

    def __init__(self):
        self.types = None

    def answer(self, call):
        operation, rest = call[0], call[1:]
        if operation == 0:
            return self.create(*rest)
        if self.types is None:
            return [-11]
        if operation == 1:
            return self.add_type(rest[0], rest[2:])
        if operation == 14:
            return [len(self.types), len(self.alternatives)] + [len(kinds) for kinds in self.types]
        if not all(self.types):
            return [-16]
        if operation in (4, 5, 6):
            return self.use(operation, rest)
        if operation == 2:
            return self.set_allocation(rest[0], tuple(rest[2:]))
        if operation == 3:
            return [self.chosen.get(tuple(rest[1:]), -22)]
        if operation == 7:
            return self.misreport_loss(rest[0], rest[1], tuple(rest[3:]))
        if operation in (8, 9):
            return self.violation(4 if operation == 8 else 2)
        if operation == 10:
            return self.payment_bounds(rest[0], tuple(rest[2:]))
        if operation == 11:
            end = 2 + rest[1]
            return self.are_truthful_payments(rest[0], tuple(rest[2:end]), rest[end + 1:])
        return self.sums(operation, tuple(rest[1:]))

    def create(self, agent_count, alternative_count):
        if agent_count not in (1, 2, 3) or alternative_count not in (2, 3, 4):
            return [-22]
        self.types = [[] for agent in range(agent_count)]
        self.alternatives = range(alternative_count)
        return [0]

    def add_type(self, agent, values):
        if agent not in range(len(self.types)):
            return [-2]
        if len(values) != len(self.alternatives) or any(not -50 <= value <= 50 for value in values):
            return [-22]
        if len(self.types[agent]) == 4:
            return [-28]
        self.types[agent].append(values)
        self.chosen = {profile: 0 for profile in itertools.product(*[range(len(kinds)) for kinds in self.types])}
        return [len(self.types[agent]) - 1]

    def set_allocation(self, alternative, profile):
        if alternative not in self.alternatives or profile not in self.chosen:
            return [-22]
        previous, self.chosen[profile] = self.chosen[profile], alternative
        return [previous]

    def use(self, operation, rest):
        agent_count = len(self.types)
        if operation == 4:
            numbers = [1] * agent_count + [0] * len(self.alternatives)
        elif operation == 5:
            numbers = rest[1:]
            if len(numbers) != agent_count + len(self.alternatives) or any(number > 99 for number in numbers):
                return [-22]
        else:
            if rest[0] >= agent_count:
                return [-2]
            numbers = [int(agent == rest[0]) for agent in range(agent_count)] + [0] * len(self.alternatives)
        for profile in self.chosen:
            best = None
            for alternative in self.alternatives:
                total = numbers[agent_count + alternative]
                for agent in range(agent_count):
                    total += numbers[agent] * self.types[agent][profile[agent]][alternative]
                if best is None or total > best:
                    best = total
                    self.chosen[profile] = alternative
        return [0]

    def misreport_loss(self, agent, other, profile):
        if agent >= len(self.types) or other >= len(self.types[agent]):
            return [-2]
        if profile not in self.chosen:
            return [-22]
        return [0, self.loss(agent, profile, profile[agent], other)]

    def loss(self, agent, profile, kind, reported):
        values = self.types[agent][kind]
        honest, dishonest = [profile[:agent] + (report,) + profile[agent + 1:] for report in (kind, reported)]
        return values[self.chosen[honest]] - values[self.chosen[dishonest]]

    def negative_cycles(self, agent, profile, most):
        found = []
        for size in range(2, most + 1):
            for cycle in itertools.permutations(range(len(self.types[agent])), size):
                turned = cycle[1:] + cycle[:1]
                length = sum(self.loss(agent, profile, kind, reported) for kind, reported in zip(turned, cycle))
                if cycle[0] == min(cycle) and length < 0:
                    found.append((size, cycle))
        return sorted(found)

    def violation(self, most):
        found = [(agent, profile, cycle) for agent in range(len(self.types)) for profile in self.chosen
                 if profile[agent] == 0 for cycle in self.negative_cycles(agent, profile, most)]
        if not found:
            return [1]
        agent, profile, cycle = min(found)
        return [0, agent] + list(profile) + list(cycle[1])

    def shortest(self, agent, profile, start, end):
        between = [kind for kind in range(len(self.types[agent])) if kind not in (start, end)]
        lengths = []
        for size in range(len(between) + 1):
            for middle in itertools.permutations(between, size):
                path = [start] + list(middle) + [end]
                lengths.append(sum(self.loss(agent, profile, far, near) for near, far in zip(path, path[1:])))
        return min(lengths)

    def payment_bounds(self, agent, profile):
        if agent >= len(self.types):
            return [-2]
        if profile not in self.chosen:
            return [-22]
        if self.negative_cycles(agent, profile, 4):
            return [-33]
        kind = profile[agent]
        return [0, self.shortest(agent, profile, 0, kind), -self.shortest(agent, profile, kind, 0)]

    def are_truthful_payments(self, agent, profile, payments):
        if agent >= len(self.types):
            return [-2]
        kinds = range(len(self.types[agent]))
        if profile not in self.chosen or len(payments) != len(kinds):
            return [-22]
        if any(not -1000 <= payment <= 1000 for payment in payments):
            return [-22]
        pairs = itertools.product(kinds, repeat=2)
        return [int(all(payments[k] - payments[l] <= self.loss(agent, profile, k, l) for k, l in pairs))]

    def sums(self, operation, profile):
        if profile not in self.chosen:
            return [-22]
        values = [kinds[kind] for kinds, kind in zip(self.types, profile)]
        chosen = self.chosen[profile]
        if operation == 13:
            totals = [sum(row[alternative] for row in values) for alternative in self.alternatives]
            return [chosen, totals[chosen], max(totals)]
        payments = []
        for agent in range(len(values)):
            others = values[:agent] + values[agent + 1:]
            totals = [sum(row[alternative] for row in others) for alternative in self.alternatives]
            payments.append(max(totals) - totals[chosen])
        return [len(values)] + payments


class Maker(Numbers):
    """Calls of many kinds, most of which are not refused."""

    def __init__(self, seed):
        super().__init__(seed)
        self.agent_count = 2
        self.alternative_count = 2

    def seldom(self):
        return self.below(25) == 0

    def length(self, usual, most):
        return self.below(most + 1) if self.seldom() else usual

    def number(self, limit):
        if self.seldom():
            return (limit, limit + 1, 99, 100, LARGEST)[self.below(5)]
        return self.below(limit)

    def value(self, spread):
        if self.below(60) == 0:
            return (50, -50, 51, -51, LARGEST_VALUE, SMALLEST_VALUE)[self.below(6)]
        return self.below(2 * spread + 1) - spread

    def profile(self, most):
        return [self.number(2 + self.below(2)) for place in range(self.length(self.agent_count, most))]

    def create(self):
        agent_count, alternative_count = self.number(4), 1 + self.number(4)
        if 1 <= agent_count <= 3 and 2 <= alternative_count <= 4:
            self.agent_count, self.alternative_count = agent_count, alternative_count
        return create(agent_count, alternative_count)

    def add_type(self):
        spread = (2, 9, 50)[self.below(3)]
        values = [self.value(spread) for place in range(self.length(self.alternative_count, 8))]
        return add_type(self.number(self.agent_count), values)

    def begin(self):
        calls = [self.create()]
        for number in range(3 * self.agent_count):
            calls.append(self.add_type())
        return calls

    def call(self):
        choice = self.below(100)
        if choice == 0:
            return self.create()
        if choice == 1:
            return self.add_type()
        if choice < 15:
            return set_allocation(self.number(self.alternative_count), self.profile(8))
        if choice < 30:
            return allocation(self.profile(12))
        if choice < 34:
            return use_welfare_maximizer()
        if choice < 40:
            usual = self.agent_count + self.alternative_count
            limit = (2, 10, 100)[self.below(3)]
            return use_affine_maximizer([self.number(limit) for place in range(self.length(usual, 12))])
        if choice < 44:
            return use_agent_maximizer(self.number(self.agent_count))
        if choice < 60:
            return misreport_loss(self.number(self.agent_count), self.number(3), self.profile(8))
        return self.question(choice - 60)

    def question(self, choice):
        if choice < 6:
            return is_cyclically_monotonic()
        if choice < 10:
            return is_weakly_monotonic()
        if choice < 20:
            return payment_bounds(self.number(self.agent_count), self.profile(8))
        if choice < 28:
            payments = [self.payment() for place in range(self.length(2 + self.below(2), 8))]
            return are_truthful_payments(self.number(self.agent_count), self.profile(8), payments)
        if choice < 33:
            return pivot_payments(self.profile(12))
        if choice < 38:
            return welfare(self.profile(12))
        return describe()

    def payment(self):
        if self.below(40) == 0:
            return (1000, -1000, 1001, -1001, LARGEST_VALUE, SMALLEST_VALUE)[self.below(6)]
        return self.between(-3, 3)


class AgainstModel(unittest.TestCase):
    def test_mixed_calls(self):
        counted = {}
        results = {}
        for seed in range(80):
            maker = Maker(seed)
            calls = []
            while len(calls) < 300:
                calls.extend(maker.begin())
                calls.extend([maker.call() for number in range(60)])
            calls = calls[:400]
            model = Model()
            expected = [model.answer(call) for call in calls]
            self.assertEqual(run(calls), expected)
            for call, answer in zip(calls, expected):
                sort = (call[0], min(answer[0], 0))
                counted[sort] = counted.get(sort, 0) + 1
                if call[0] in (8, 9, 11):
                    results[(call[0], answer[0])] = results.get((call[0], answer[0]), 0) + 1
        # A sweep that is refused throughout would tell nothing.
        for operation in range(15):
            self.assertGreater(counted.get((operation, 0), 0), 100)
        for operation, code in [(0, -22), (1, -2), (1, -22), (1, -28), (2, -22), (3, -22), (5, -22), (6, -2),
                                (7, -2), (7, -22), (10, -2), (10, -22), (10, -33), (11, -2), (11, -22), (12, -22),
                                (13, -22)] + [(operation, -16) for operation in range(2, 14)]:
            self.assertGreater(counted.get((operation, code), 0), 0)
        for operation in (8, 9, 11):
            for result in (0, 1):
                self.assertGreater(results.get((operation, result), 0), 20)

    def test_four_types_for_each_agent(self):
        bounds, sizes = {}, {}
        for seed in range(60):
            numbers = Numbers(seed)
            agent_count = numbers.between(1, 3)
            calls = self.changed_from_an_affine_maximizer(numbers, agent_count)
            model = Model()
            expected = [model.answer(call) for call in calls]
            self.assertEqual(run(calls), expected)
            for call, answer in zip(calls, expected):
                if call[0] == 10:
                    bounds[len(answer)] = bounds.get(len(answer), 0) + 1
                if call[0] == 8:
                    size = max(0, len(answer) - 2 - agent_count)
                    sizes[size] = sizes.get(size, 0) + 1
        # Truthful payments or none; monotonic or not.
        for count in (bounds[1], bounds[3], sizes[0], sizes[2]):
            self.assertGreater(count, 5)

    def changed_from_an_affine_maximizer(self, numbers, agent_count):
        alternative_count = numbers.between(3, 4)
        types = numbers.types([4] * agent_count, alternative_count, (1, 3, 20)[numbers.below(3)])
        calls = begun(types) + [use_affine_maximizer([1] * (agent_count + alternative_count))]
        for profile in profiles([4] * agent_count)[:numbers.below(60)]:
            if numbers.below(6) == 0:
                calls.append(set_allocation(numbers.below(alternative_count), profile))
                calls.extend([is_cyclically_monotonic(), is_weakly_monotonic()])
            calls.extend([payment_bounds(agent, profile) for agent in range(agent_count)])
        return calls

    def test_cycles_of_two_types_that_are_hardly_negative(self):
        sizes = {}
        for seed in range(400):
            calls = begun_with_losses(self.nearly_opposite_losses(Numbers(seed)))
            calls.extend([is_cyclically_monotonic(), is_weakly_monotonic()])
            calls.extend([payment_bounds(0, [kind]) for kind in range(4)])
            model = Model()
            expected = [model.answer(call) for call in calls]
            self.assertEqual(run(calls), expected)
            size = max(0, len(expected[-6]) - 3)
            sizes[size] = sizes.get(size, 0) + 1
        for size in (0, 2, 3, 4):
            self.assertGreater(sizes.get(size, 0), 5)

    def nearly_opposite_losses(self, numbers):
        # What one type gains by reporting another, the other mostly loses by reporting the one, or a little more.
        found = [[0] * 4 for kind in range(4)]
        for kind, reported in itertools.combinations(range(4), 2):
            found[kind][reported] = numbers.between(-5, 5)
            found[reported][kind] = numbers.between(-1, 6) - found[kind][reported]
        return found


if __name__ == "__main__":
    unittest.main()
