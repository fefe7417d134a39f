"""The calls by name, and the answers taken apart: what all tests share."""

from truthfulpay.bench import answers

NO_SUCH_MEMBER = [-2]
NO_INSTANCE = [-11]
NOT_READY = [-16]
INVALID = [-22]
TOO_MANY_TYPES = [-28]
NO_TRUTHFUL_PAYMENTS = [-33]

LARGEST = 4294967295
LARGEST_VALUE = 2147483647
SMALLEST_VALUE = -2147483648


def create(agent_count, alternative_count):
    return [0, agent_count, alternative_count]


def add_type(agent, values):
    return [1, agent, len(values)] + values


def set_allocation(alternative, profile):
    return [2, alternative, len(profile)] + profile


def allocation(profile):
    return [3, len(profile)] + profile


def use_welfare_maximizer():
    return [4]


def use_affine_maximizer(weights_and_boosts):
    return [5, len(weights_and_boosts)] + weights_and_boosts


def use_agent_maximizer(agent):
    return [6, agent]


def misreport_loss(agent, other_type, profile):
    return [7, agent, other_type, len(profile)] + profile


def is_cyclically_monotonic():
    return [8]


def is_weakly_monotonic():
    return [9]


def payment_bounds(agent, profile):
    return [10, agent, len(profile)] + profile


def are_truthful_payments(agent, profile, payments):
    return [11, agent, len(profile)] + profile + [len(payments)] + payments


def pivot_payments(profile):
    return [12, len(profile)] + profile


def welfare(profile):
    return [13, len(profile)] + profile


def describe():
    return [14]


def begun(types):
    """Calls that begin an instance with the values of each agent's types."""
    calls = [create(len(types), len(types[0][0]))]
    for agent, values_of_types in enumerate(types):
        calls.extend([add_type(agent, values) for values in values_of_types])
    return calls


def begun_with_losses(losses):
    """Calls that begin an instance of one agent with these losses of each type by each report.

    Each type is allocated the alternative of its own number, which it values at 0.
    """
    values = [[-loss for loss in row] for row in losses]
    return begun([values]) + [set_allocation(number, [number]) for number in range(len(losses))]


def allocate_all(alternatives, type_counts):
    """Calls that allocate these alternatives to the profiles, in lexicographic order."""
    return [set_allocation(alternative, profile)
            for alternative, profile in zip(alternatives, profiles(type_counts), strict=True)]


def joined(calls):
    """One list of numbers of a list of calls."""
    return [number for call in calls for number in call]


def taken_apart(given):
    """The answers, one list each, of the one list that is given back."""
    found = []
    at = 0
    while at < len(given):
        end = at + 1 + given[at]
        if end > len(given):
            raise AssertionError(f"an answer is cut short: {given}")
        found.append(given[at + 1:end])
        at = end
    return found


def run(calls):
    """The answer to each call, one list each."""
    numbers = joined(calls)
    if not 1 <= len(calls) <= 400 or len(numbers) > 8000:
        raise AssertionError(f"no such list is handed in: {len(calls)} calls, {len(numbers)} numbers")
    found = taken_apart(answers(numbers))
    if len(found) != len(calls):
        raise AssertionError(f"{len(calls)} calls, but {len(found)} answers: {found}")
    return found


def answer_after(calls, call):
    """The answer to the call that follows the calls."""
    return run(calls + [call])[-1]


def profiles(type_counts):
    """All profiles in lexicographic order."""
    found = [[]]
    for count in type_counts:
        found = [start + [kind] for start in found for kind in range(count)]
    return found


def look_at(type_counts):
    """Calls that ask for the allocation of every profile."""
    return [allocation(profile) for profile in profiles(type_counts)]


def allocations_after(calls, type_counts):
    """The alternatives of all profiles, in lexicographic order, after the calls."""
    found = run(calls + look_at(type_counts))[len(calls):]
    return [answer[0] if len(answer) == 1 else answer for answer in found]


def probe(type_counts, alternative_count):
    """Calls that tell all there is in the state of a ready instance with these counts.

    The counts and the allocations come first, with the total value of each of these. Then
    each alternative is set against alternative 0 at two reports of an agent, so that the
    losses tell every difference of two values. One more type for each agent tells how many
    it has.
    """
    calls = [describe()] + look_at(type_counts)
    calls.extend([welfare(profile) for profile in profiles(type_counts)])
    for agent, count in enumerate(type_counts):
        base = [0] * len(type_counts)
        for kind in range(count):
            for other in range(count):
                calls.append(misreport_loss(agent, other, with_report(base, agent, kind)))
    calls.append(use_welfare_maximizer())
    calls.extend(look_at(type_counts))
    for agent, count in enumerate(type_counts):
        calls.append(use_agent_maximizer(agent))
        calls.extend(look_at(type_counts))
        calls.extend(differences(agent, count, len(type_counts), alternative_count))
    for agent in range(4):
        calls.append(add_type(agent, [0] * alternative_count))
    return calls


def differences(agent, count, agent_count, alternative_count):
    """Calls whose losses tell how much each alternative is worth to each type beside the others."""
    calls = []
    base = [0] * agent_count
    for kind in range(count):
        honest = with_report(base, agent, kind)
        for other in range(count):
            for alternative in range(alternative_count):
                calls.append(set_allocation(0, honest))
                calls.append(set_allocation(alternative, with_report(base, agent, other)))
                calls.append(misreport_loss(agent, other, honest))
    return calls


def with_report(profile, agent, kind):
    return profile[:agent] + [kind] + profile[agent + 1:]


class Numbers:
    """Numbers by plain arithmetic in place of chance, so that a failure comes again."""

    def __init__(self, seed):
        self.state = seed

    def below(self, limit):
        self.state = (self.state * 6364136223846793005 + 1442695040888963407) % 2 ** 64
        return (self.state >> 33) % limit

    def between(self, least, greatest):
        return least + self.below(greatest - least + 1)

    def types(self, type_counts, alternative_count, spread):
        """Values of as many types as are counted for each agent, none farther than the spread from 0."""
        return [[[self.between(-spread, spread) for place in range(alternative_count)] for number in range(count)]
                for count in type_counts]

    def type_counts(self, most):
        """How many types each of one to three agents has; the greatest counts now and then."""
        if self.below(15) == 0:
            return [most] * 3
        return [self.between(1, most) for agent in range(self.between(1, 3))]
