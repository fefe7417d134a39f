"""The codes of the refusals, and the limits that are narrower than what may be handed in."""

NO_SUCH_MEMBER = -2
NO_INSTANCE = -11
NOT_READY = -16
INVALID = -22
TOO_MANY_KINDS = -28
NO_TRUTHFUL_PAYMENTS = -33

FEWEST_AGENTS = 1
MOST_AGENTS = 3
FEWEST_ALTERNATIVES = 2
MOST_ALTERNATIVES = 4
MOST_KINDS = 4
GREATEST_VALUE = 50
GREATEST_FACTOR = 99
GREATEST_PAYMENT = 1000


def fits(numbers, count, greatest):
    """Tell whether the list has so many numbers, none of which is farther from 0 than the greatest."""
    if len(numbers) != count:
        return False
    return all([abs(number) <= greatest for number in numbers])
