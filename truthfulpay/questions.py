"""The operations that leave the state as it is, each with its own errors in the order in which they are checked.

Each gives back its answer as a list of numbers; a refusal is a list of its code alone.
Whether there is an instance, and whether it is ready, has been checked ahead of them
(describe asks for no ready instance).
"""

from truthfulpay.cycles import cycles_of, first_negative, first_violation
from truthfulpay.limits import GREATEST_PAYMENT, INVALID, MOST_KINDS, NO_SUCH_MEMBER
from truthfulpay.limits import NO_TRUTHFUL_PAYMENTS
from truthfulpay.limits import fits
from truthfulpay.payments import are_truthful, distances, pivot_payment
from truthfulpay.rules import total_values


def allocation(instance, profile):
    """Operation 3: answer the alternative that is allocated to the profile."""
    if not instance.is_profile(profile):
        return [INVALID]
    return [instance.allocated(profile)]


def misreport_loss(instance, agent, reported, profile):
    """Operation 7: answer what the agent's kind in the profile loses by reporting another one."""
    if not instance.has_agent(agent) or not instance.has_kind(agent, reported):
        return [NO_SUCH_MEMBER]
    if not instance.is_profile(profile):
        return [INVALID]
    return [0, instance.losses(agent, profile)[profile[agent]][reported]]


def is_cyclically_monotonic(instance):
    """Operation 8: answer 1, or 0 and the first negative cycle with its agent and its base profile."""
    return is_monotonic(instance, MOST_KINDS)


def is_weakly_monotonic(instance):
    """Operation 9: as operation 8, but of the cycles of two kinds alone."""
    return is_monotonic(instance, 2)


def is_monotonic(instance, most):
    """Answer the operations 8 and 9, of the cycles of at most so many kinds."""
    violation = first_violation(instance, most)
    if violation is None:
        return [1]
    return [0] + violation


def payment_bounds(instance, agent, profile):
    """Operation 10: answer the greatest and the least truthful payment of the kind in the profile."""
    if not instance.has_agent(agent):
        return [NO_SUCH_MEMBER]
    if not instance.is_profile(profile):
        return [INVALID]
    losses = instance.losses(agent, profile)
    if first_negative(losses, cycles_of(len(losses), MOST_KINDS)) is not None:
        return [NO_TRUTHFUL_PAYMENTS]
    lengths = distances(losses)
    kind = profile[agent]
    return [0, lengths[0][kind], -lengths[kind][0]]


def are_truthful_payments(instance, agent, profile, payments):
    """Operation 11: answer 1 if no kind gains by reporting another one and paying for it, else 0."""
    if not instance.has_agent(agent):
        return [NO_SUCH_MEMBER]
    if not instance.is_profile(profile):
        return [INVALID]
    if not fits(payments, instance.kind_count(agent), GREATEST_PAYMENT):
        return [INVALID]
    if are_truthful(instance.losses(agent, profile), payments):
        return [1]
    return [0]


def pivot_payments(instance, profile):
    """Operation 12: answer the number of agents, and the pivot payment of each."""
    if not instance.is_profile(profile):
        return [INVALID]
    found = [pivot_payment(instance, agent, profile) for agent in range(instance.agent_count)]
    return [instance.agent_count] + found


def welfare(instance, profile):
    """Operation 13: answer the allocated alternative, its total value, and the greatest total value."""
    if not instance.is_profile(profile):
        return [INVALID]
    alternative = instance.allocated(profile)
    totals = total_values(instance, profile)
    return [alternative, totals[alternative], max(totals)]


def describe(instance):
    """Operation 14: answer the numbers of agents and alternatives, and of each agent's kinds."""
    counts = [instance.kind_count(agent) for agent in range(instance.agent_count)]
    return [instance.agent_count, instance.alternative_count] + counts
