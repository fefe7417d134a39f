"""The operations, each with its own errors in the order in which they are checked.

Each gives back its answer as a list of numbers; a refusal is a list of its code alone.
Whether there is an instance, and whether it is ready, has been checked ahead of them.
"""

from truthfulpay.instance import Instance
from truthfulpay.limits import FEWEST_AGENTS, FEWEST_ALTERNATIVES, GREATEST_FACTOR, GREATEST_VALUE
from truthfulpay.limits import INVALID, MOST_AGENTS, MOST_ALTERNATIVES, MOST_KINDS
from truthfulpay.limits import NO_SUCH_MEMBER, TOO_MANY_KINDS
from truthfulpay.rules import allocate_best


def create(workbench, agent_count, alternative_count):
    """Operation 0: begin an instance without kinds, in place of the one there may be."""
    if not FEWEST_AGENTS <= agent_count <= MOST_AGENTS:
        return [INVALID]
    if not FEWEST_ALTERNATIVES <= alternative_count <= MOST_ALTERNATIVES:
        return [INVALID]
    workbench.instance = Instance(agent_count, alternative_count)
    return [0]


def add_kind(instance, agent, valuation):
    """Operation 1: give the agent one more kind, and answer its number."""
    if not instance.has_agent(agent):
        return [NO_SUCH_MEMBER]
    if not is_valuation(instance, valuation):
        return [INVALID]
    number = len(instance.valuations[agent])
    if number >= MOST_KINDS:
        return [TOO_MANY_KINDS]
    instance.append_kind(agent, valuation)
    return [number]


def is_valuation(instance, valuation):
    """Tell whether the list has just one value within the limits for each alternative."""
    if len(valuation) != instance.alternative_count:
        return False
    return all([abs(value) <= GREATEST_VALUE for value in valuation])


def set_allocation(instance, alternative, profile):
    """Operation 2: allocate the alternative to the profile, and answer the former one."""
    if not instance.has_alternative(alternative) or not instance.is_profile(profile):
        return [INVALID]
    former = instance.allocated(profile)
    instance.allocation[instance.place(profile)] = alternative
    return [former]


def allocation(instance, profile):
    """Operation 3: answer the alternative that is allocated to the profile."""
    if not instance.is_profile(profile):
        return [INVALID]
    return [instance.allocated(profile)]


def use_welfare_maximizer(instance):
    """Operation 4: allocate to each profile the alternative with the greatest total value."""
    weights = [1] * instance.agent_count
    allocate_best(instance, weights, [0] * instance.alternative_count)
    return [0]


def use_affine_maximizer(instance, weights_and_boosts):
    """Operation 5: as operation 4, with a weight for each agent and a boost for each alternative."""
    if len(weights_and_boosts) != instance.agent_count + instance.alternative_count:
        return [INVALID]
    if max(weights_and_boosts) > GREATEST_FACTOR:
        return [INVALID]
    weights = weights_and_boosts[:instance.agent_count]
    allocate_best(instance, weights, weights_and_boosts[instance.agent_count:])
    return [0]


def use_agent_maximizer(instance, agent):
    """Operation 6: allocate to each profile what is worth most to the kind that the agent reports."""
    if not instance.has_agent(agent):
        return [NO_SUCH_MEMBER]
    weights = [0] * instance.agent_count
    weights[agent] = 1
    allocate_best(instance, weights, [0] * instance.alternative_count)
    return [0]


def misreport_loss(instance, agent, reported, profile):
    """Operation 7: answer what the agent's kind in the profile loses by reporting another one."""
    if not instance.has_agent(agent) or not instance.has_kind(agent, reported):
        return [NO_SUCH_MEMBER]
    if not instance.is_profile(profile):
        return [INVALID]
    return [0, instance.loss(agent, profile, profile[agent], reported)]
