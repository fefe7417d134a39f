"""Long lists of mixed calls, set against a second way to answer them.

The model keeps the allocation by profile and writes the document's formulas out, so
that it has little in common with the program. The calls are made by plain arithmetic,
so that a failure comes again.
"""

import itertools
import unittest

from tests.helper import (
    LARGEST, LARGEST_VALUE, SMALLEST_VALUE, add_type, allocation, create, misreport_loss, run,
    set_allocation, use_affine_maximizer, use_agent_maximizer, use_welfare_maximizer)


class Model:
    """The document's state and operations 0 to 7."""

    def __init__(self):
        self.types = None

    def answer(self, call):
        operation, rest = call[0], call[1:]
        if operation == 0:
            return self.create(*rest)
        if self.types is None:
            return [-11]
        if operation == 1:
            return self.add_type(rest[0], rest[2:])
        if not all(self.types):
            return [-16]
        if operation in (4, 5, 6):
            return self.use(operation, rest)
        if operation == 2:
            return self.set_allocation(rest[0], tuple(rest[2:]))
        if operation == 3:
            return [self.chosen.get(tuple(rest[1:]), -22)]
        return self.misreport_loss(rest[0], rest[1], tuple(rest[3:]))

    def create(self, agent_count, alternative_count):
        if agent_count not in (1, 2, 3) or alternative_count not in (2, 3, 4):
            return [-22]
        self.types = [[] for agent in range(agent_count)]
        self.alternatives = range(alternative_count)
        return [0]

    def add_type(self, agent, values):
        if agent not in range(len(self.types)):
            return [-2]
        if len(values) != len(self.alternatives) or any(not -50 <= value <= 50 for value in values):
            return [-22]
        if len(self.types[agent]) == 4:
            return [-28]
        self.types[agent].append(values)
        self.chosen = {profile: 0 for profile in itertools.product(*[range(len(kinds)) for kinds in self.types])}
        return [len(self.types[agent]) - 1]

    def set_allocation(self, alternative, profile):
        if alternative not in self.alternatives or profile not in self.chosen:
            return [-22]
        previous, self.chosen[profile] = self.chosen[profile], alternative
        return [previous]

    def use(self, operation, rest):
        agent_count = len(self.types)
        if operation == 4:
            numbers = [1] * agent_count + [0] * len(self.alternatives)
        elif operation == 5:
            numbers = rest[1:]
            if len(numbers) != agent_count + len(self.alternatives) or any(number > 99 for number in numbers):
                return [-22]
        else:
            if rest[0] >= agent_count:
                return [-2]
            numbers = [int(agent == rest[0]) for agent in range(agent_count)] + [0] * len(self.alternatives)
        for profile in self.chosen:
            best = None
            for alternative in self.alternatives:
                total = numbers[agent_count + alternative]
                for agent in range(agent_count):
                    total += numbers[agent] * self.types[agent][profile[agent]][alternative]
                if best is None or total > best:
                    best = total
                    self.chosen[profile] = alternative
        return [0]

    def misreport_loss(self, agent, other, profile):
        if agent >= len(self.types) or other >= len(self.types[agent]):
            return [-2]
        if profile not in self.chosen:
            return [-22]
        dishonest = list(profile)
        dishonest[agent] = other
        values = self.types[agent][profile[agent]]
        return [0, values[self.chosen[profile]] - values[self.chosen[tuple(dishonest)]]]


class Maker:
    """Calls of many kinds, most of which are not refused."""

    def __init__(self, seed):
        self.state = seed
        self.agent_count = 2
        self.alternative_count = 2

    def below(self, limit):
        self.state = (self.state * 6364136223846793005 + 1442695040888963407) % 2 ** 64
        return (self.state >> 33) % limit

    def seldom(self):
        return self.below(25) == 0

    def length(self, usual, most):
        return self.below(most + 1) if self.seldom() else usual

    def number(self, limit):
        if self.seldom():
            return (limit, limit + 1, 99, 100, LARGEST)[self.below(5)]
        return self.below(limit)

    def value(self, spread):
        if self.below(60) == 0:
            return (50, -50, 51, -51, LARGEST_VALUE, SMALLEST_VALUE)[self.below(6)]
        return self.below(2 * spread + 1) - spread

    def profile(self, most):
        return [self.number(2 + self.below(2)) for place in range(self.length(self.agent_count, most))]

    def create(self):
        agent_count, alternative_count = self.number(4), 1 + self.number(4)
        if 1 <= agent_count <= 3 and 2 <= alternative_count <= 4:
            self.agent_count, self.alternative_count = agent_count, alternative_count
        return create(agent_count, alternative_count)

    def add_type(self):
        spread = (2, 9, 50)[self.below(3)]
        values = [self.value(spread) for place in range(self.length(self.alternative_count, 8))]
        return add_type(self.number(self.agent_count), values)

    def begin(self):
        calls = [self.create()]
        for number in range(3 * self.agent_count):
            calls.append(self.add_type())
        return calls

    def call(self):
        choice = self.below(60)
        if choice == 0:
            return self.create()
        if choice == 1:
            return self.add_type()
        if choice < 15:
            return set_allocation(self.number(self.alternative_count), self.profile(8))
        if choice < 30:
            return allocation(self.profile(12))
        if choice < 34:
            return use_welfare_maximizer()
        if choice < 40:
            usual = self.agent_count + self.alternative_count
            limit = (2, 10, 100)[self.below(3)]
            return use_affine_maximizer([self.number(limit) for place in range(self.length(usual, 12))])
        if choice < 44:
            return use_agent_maximizer(self.number(self.agent_count))
        return misreport_loss(self.number(self.agent_count), self.number(3), self.profile(8))


class AgainstModel(unittest.TestCase):
    def test_mixed_calls(self):
        counted = {}
        for seed in range(60):
            maker = Maker(seed)
            calls = []
            while len(calls) < 300:
                calls.extend(maker.begin())
                calls.extend([maker.call() for number in range(60)])
            calls = calls[:400]
            model = Model()
            expected = [model.answer(call) for call in calls]
            self.assertEqual(run(calls), expected)
            for call, answer in zip(calls, expected):
                sort = (call[0], min(answer[0], 0))
                counted[sort] = counted.get(sort, 0) + 1
        # A sweep that is refused throughout would tell nothing.
        for operation in range(8):
            self.assertGreater(counted.get((operation, 0), 0), 100)
        for operation, code in [(0, -22), (1, -2), (1, -22), (1, -28), (2, -22), (3, -22), (5, -22), (6, -2),
                                (7, -2), (7, -22), (2, -16), (3, -16), (7, -16)]:
            self.assertGreater(counted.get((operation, code), 0), 0)


if __name__ == "__main__":
    unittest.main()
