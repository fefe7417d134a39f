"""The operations that change the state, each with its own errors in the order in which they are checked.

Each gives back its answer as a list of numbers; a refusal is a list of its code alone.
Whether there is an instance, and whether it is ready, has been checked ahead of them.
"""

from truthfulpay.instance import Instance
from truthfulpay.limits import FEWEST_AGENTS, FEWEST_ALTERNATIVES, GREATEST_FACTOR, GREATEST_VALUE
from truthfulpay.limits import INVALID, MOST_AGENTS, MOST_ALTERNATIVES, MOST_KINDS
from truthfulpay.limits import NO_SUCH_MEMBER, TOO_MANY_KINDS
from truthfulpay.limits import fits
from truthfulpay.rules import allocate_best


def create(workbench, agent_count, alternative_count):
    """Operation 0: begin an instance without kinds, in place of the one there may be."""
    if not FEWEST_AGENTS <= agent_count <= MOST_AGENTS:
        return [INVALID]
    if not FEWEST_ALTERNATIVES <= alternative_count <= MOST_ALTERNATIVES:
        return [INVALID]
    workbench.instance = Instance(agent_count, alternative_count)
    return [0]


def add_kind(instance, agent, valuation):
    """Operation 1: give the agent one more kind, and answer its number."""
    if not instance.has_agent(agent):
        return [NO_SUCH_MEMBER]
    if not fits(valuation, instance.alternative_count, GREATEST_VALUE):
        return [INVALID]
    number = instance.kind_count(agent)
    if number >= MOST_KINDS:
        return [TOO_MANY_KINDS]
    instance.append_kind(agent, valuation)
    return [number]


def set_allocation(instance, alternative, profile):
    """Operation 2: allocate the alternative to the profile, and answer the former one."""
    if not instance.has_alternative(alternative) or not instance.is_profile(profile):
        return [INVALID]
    former = instance.allocated(profile)
    instance.allocation[instance.place(profile)] = alternative
    return [former]


def use_welfare_maximizer(instance):
    """Operation 4: allocate to each profile the alternative with the greatest total value."""
    allocate_best(instance, [1] * instance.agent_count, [0] * instance.alternative_count)
    return [0]


def use_affine_maximizer(instance, weights_and_boosts):
    """Operation 5: as operation 4, with a weight for each agent and a boost for each alternative."""
    if not fits(weights_and_boosts, instance.agent_count + instance.alternative_count, GREATEST_FACTOR):
        return [INVALID]
    weights = weights_and_boosts[:instance.agent_count]
    allocate_best(instance, weights, weights_and_boosts[instance.agent_count:])
    return [0]


def use_agent_maximizer(instance, agent):
    """Operation 6: allocate to each profile what is worth most to the kind that the agent reports."""
    if not instance.has_agent(agent):
        return [NO_SUCH_MEMBER]
    weights = [0] * instance.agent_count
    weights[agent] = 1
    allocate_best(instance, weights, [0] * instance.alternative_count)
    return [0]
