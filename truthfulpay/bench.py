"""The entry to the program: a list of calls goes in, the list of their answers comes out."""

from truthfulpay.changes import add_kind, create, set_allocation
from truthfulpay.changes import use_affine_maximizer, use_agent_maximizer, use_welfare_maximizer
from truthfulpay.instance import Workbench
from truthfulpay.limits import NO_INSTANCE, NOT_READY
from truthfulpay.questions import allocation, are_truthful_payments, describe, is_cyclically_monotonic
from truthfulpay.questions import is_weakly_monotonic, misreport_loss, payment_bounds, pivot_payments, welfare
from truthfulpay.reading import ADD_KIND, ALLOCATION, ARE_TRUTHFUL_PAYMENTS, CREATE, DESCRIBE
from truthfulpay.reading import IS_CYCLICALLY_MONOTONIC, IS_WEAKLY_MONOTONIC, MISREPORT_LOSS, PAYMENT_BOUNDS
from truthfulpay.reading import PIVOT_PAYMENTS, SET_ALLOCATION, USE_AFFINE_MAXIMIZER, USE_AGENT_MAXIMIZER
from truthfulpay.reading import USE_WELFARE_MAXIMIZER, read_calls


def answers(calls):
    """Perform the calls in order on a new object; for each, give how many numbers it answers, and these."""
    given = []
    workbench = Workbench()
    for operation, numbers, rows in read_calls(calls):
        answer = perform(workbench, operation, numbers, rows)
        given.append(len(answer))
        given.extend(answer)
    return given


def perform(workbench, operation, numbers, rows):
    """Perform one call, after the checks that come ahead of the operations' own errors."""
    if operation == CREATE:
        return create(workbench, numbers[0], numbers[1])
    instance = workbench.instance
    if instance is None:
        return [NO_INSTANCE]
    if operation == ADD_KIND:
        return add_kind(instance, numbers[0], rows[0])
    if operation == DESCRIBE:
        return describe(instance)
    if not instance.is_ready():
        return [NOT_READY]
    return perform_when_ready(instance, operation, numbers, rows)


def perform_when_ready(instance, operation, numbers, rows):
    """Perform one call of an operation that asks for a ready instance: 2 and 4 to 6, and else a question."""
    if operation == SET_ALLOCATION:
        return set_allocation(instance, numbers[0], rows[0])
    if operation == USE_WELFARE_MAXIMIZER:
        return use_welfare_maximizer(instance)
    if operation == USE_AFFINE_MAXIMIZER:
        return use_affine_maximizer(instance, rows[0])
    if operation == USE_AGENT_MAXIMIZER:
        return use_agent_maximizer(instance, numbers[0])
    return ask(instance, operation, numbers, rows)


def ask(instance, operation, numbers, rows):
    """Perform one call of an operation that leaves a ready instance as it is: 3, 7 to 12, and else 13."""
    if operation == ALLOCATION:
        return allocation(instance, rows[0])
    if operation == MISREPORT_LOSS:
        return misreport_loss(instance, numbers[0], numbers[1], rows[0])
    if operation == IS_CYCLICALLY_MONOTONIC:
        return is_cyclically_monotonic(instance)
    if operation == IS_WEAKLY_MONOTONIC:
        return is_weakly_monotonic(instance)
    if operation == PAYMENT_BOUNDS:
        return payment_bounds(instance, numbers[0], rows[0])
    if operation == ARE_TRUTHFUL_PAYMENTS:
        return are_truthful_payments(instance, numbers[0], rows[0], rows[1])
    if operation == PIVOT_PAYMENTS:
        return pivot_payments(instance, rows[0])
    return welfare(instance, rows[0])
