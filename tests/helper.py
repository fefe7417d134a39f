"""The calls by name, and the answers taken apart: what all tests share."""

from truthfulpay.bench import answers

NO_SUCH_MEMBER = [-2]
NO_INSTANCE = [-11]
NOT_READY = [-16]
INVALID = [-22]
TOO_MANY_TYPES = [-28]

LARGEST = 4294967295
LARGEST_VALUE = 2147483647
SMALLEST_VALUE = -2147483648


def create(agent_count, alternative_count):
    return [0, agent_count, alternative_count]


def add_type(agent, values):
    return [1, agent, len(values)] + values


def set_allocation(alternative, profile):
    return [2, alternative, len(profile)] + profile


def allocation(profile):
    return [3, len(profile)] + profile


def use_welfare_maximizer():
    return [4]


def use_affine_maximizer(weights_and_boosts):
    return [5, len(weights_and_boosts)] + weights_and_boosts


def use_agent_maximizer(agent):
    return [6, agent]


def misreport_loss(agent, other_type, profile):
    return [7, agent, other_type, len(profile)] + profile


def joined(calls):
    """One list of numbers of a list of calls."""
    return [number for call in calls for number in call]


def taken_apart(given):
    """The answers, one list each, of the one list that is given back."""
    found = []
    at = 0
    while at < len(given):
        end = at + 1 + given[at]
        if end > len(given):
            raise AssertionError(f"an answer is cut short: {given}")
        found.append(given[at + 1:end])
        at = end
    return found


def run(calls):
    """The answer to each call, one list each."""
    found = taken_apart(answers(joined(calls)))
    if len(found) != len(calls):
        raise AssertionError(f"{len(calls)} calls, but {len(found)} answers: {found}")
    return found


def answer_after(calls, call):
    """The answer to the call that follows the calls."""
    return run(calls + [call])[-1]


def profiles(type_counts):
    """All profiles in lexicographic order."""
    found = [[]]
    for count in type_counts:
        found = [start + [kind] for start in found for kind in range(count)]
    return found


def look_at(type_counts):
    """Calls that ask for the allocation of every profile."""
    return [allocation(profile) for profile in profiles(type_counts)]


def allocations_after(calls, type_counts):
    """The alternatives of all profiles, in lexicographic order, after the calls."""
    found = run(calls + look_at(type_counts))[len(calls):]
    return [answer[0] if len(answer) == 1 else answer for answer in found]


def probe(type_counts, alternative_count):
    """Calls that tell all there is in the state of a ready instance with these counts.

    The allocations come first. Then each alternative is set against alternative 0 at
    two reports of an agent, so that the losses tell every difference of two values.
    One more type for each agent tells how many it has.
    """
    calls = look_at(type_counts)
    for agent, count in enumerate(type_counts):
        base = [0] * len(type_counts)
        for kind in range(count):
            for other in range(count):
                calls.append(misreport_loss(agent, other, with_report(base, agent, kind)))
    calls.append(use_welfare_maximizer())
    calls.extend(look_at(type_counts))
    for agent, count in enumerate(type_counts):
        calls.append(use_agent_maximizer(agent))
        calls.extend(look_at(type_counts))
        calls.extend(differences(agent, count, len(type_counts), alternative_count))
    for agent in range(4):
        calls.append(add_type(agent, [0] * alternative_count))
    return calls


def differences(agent, count, agent_count, alternative_count):
    """Calls whose losses tell how much each alternative is worth to each type beside the others."""
    calls = []
    base = [0] * agent_count
    for kind in range(count):
        honest = with_report(base, agent, kind)
        for other in range(count):
            for alternative in range(alternative_count):
                calls.append(set_allocation(0, honest))
                calls.append(set_allocation(alternative, with_report(base, agent, other)))
                calls.append(misreport_loss(agent, other, honest))
    return calls


def with_report(profile, agent, kind):
    return profile[:agent] + [kind] + profile[agent + 1:]
