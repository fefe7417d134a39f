"""The entry to the program: a list of calls goes in, the list of their answers comes out."""

from truthfulpay.instance import Workbench
from truthfulpay.limits import NO_INSTANCE, NOT_READY
from truthfulpay.operations import add_kind, allocation, create, misreport_loss, set_allocation
from truthfulpay.operations import use_affine_maximizer, use_agent_maximizer, use_welfare_maximizer
from truthfulpay.reading import ADD_KIND, ALLOCATION, CREATE, SET_ALLOCATION
from truthfulpay.reading import USE_AFFINE_MAXIMIZER, USE_AGENT_MAXIMIZER, USE_WELFARE_MAXIMIZER
from truthfulpay.reading import read_calls


def answers(calls):
    """Perform the calls in order on a new object; for each, give how many numbers it answers, and these."""
    given = []
    workbench = Workbench()
    for operation, numbers, rows in read_calls(calls):
        answer = perform(workbench, operation, numbers, rows)
        given.append(len(answer))
        given.extend(answer)
    return given


def perform(workbench, operation, numbers, rows):
    """Perform one call, after the checks that come ahead of the operations' own errors."""
    if operation == CREATE:
        return create(workbench, numbers[0], numbers[1])
    instance = workbench.instance
    if instance is None:
        return [NO_INSTANCE]
    if operation == ADD_KIND:
        return add_kind(instance, numbers[0], rows[0])
    if not instance.is_ready():
        return [NOT_READY]
    return perform_when_ready(instance, operation, numbers, rows)


def perform_when_ready(instance, operation, numbers, rows):
    """Perform one call of an operation that asks for a ready instance: 2 to 6, and else 7."""
    if operation == SET_ALLOCATION:
        return set_allocation(instance, numbers[0], rows[0])
    if operation == ALLOCATION:
        return allocation(instance, rows[0])
    if operation == USE_WELFARE_MAXIMIZER:
        return use_welfare_maximizer(instance)
    if operation == USE_AFFINE_MAXIMIZER:
        return use_affine_maximizer(instance, rows[0])
    if operation == USE_AGENT_MAXIMIZER:
        return use_agent_maximizer(instance, numbers[0])
    return misreport_loss(instance, numbers[0], numbers[1], rows[0])
