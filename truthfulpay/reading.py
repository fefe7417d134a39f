"""The calls as they are handed in: the operations' numbers, and the one list taken apart."""

CREATE = 0
ADD_KIND = 1
SET_ALLOCATION = 2
ALLOCATION = 3
USE_WELFARE_MAXIMIZER = 4
USE_AFFINE_MAXIMIZER = 5
USE_AGENT_MAXIMIZER = 6
MISREPORT_LOSS = 7
IS_CYCLICALLY_MONOTONIC = 8
IS_WEAKLY_MONOTONIC = 9
PAYMENT_BOUNDS = 10
ARE_TRUTHFUL_PAYMENTS = 11
PIVOT_PAYMENTS = 12
# 13, welfare, needs no name: it is told by being none of the others.
DESCRIBE = 14

# For each operation how many single numbers it has, and then how many rows.
SHAPES = ((2, 0), (1, 1), (1, 1), (0, 1), (0, 0), (0, 1), (1, 0), (2, 1),
          (0, 0), (0, 0), (1, 1), (1, 2), (0, 1), (0, 1), (0, 0))


def read_calls(calls):
    """Take the one list apart: for each call its operation, its single numbers and its rows."""
    found = []
    at = 0
    while at < len(calls):
        operation = calls[at]
        shape = SHAPES[operation]
        start = at + 1
        at = start + shape[0]
        numbers = calls[start:at]
        rows = read_rows(calls, at, shape[1])
        at += sum([1 + len(row) for row in rows])
        found.append((operation, numbers, rows))
    return found


def read_rows(calls, at, count):
    """Copy as many rows as are counted, the first of which has its length at this place."""
    rows = []
    for number in range(count):
        start = at + 1
        at = start + calls[at]
        rows.append(calls[start:at])
    return rows
