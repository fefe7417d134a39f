"""Payments of an agent: which are truthful, how far truthful ones may go, and those of Clarke."""

from truthfulpay.rules import others_values


def are_truthful(losses, payments):
    """Tell whether no kind saves more than it loses by reporting another one."""
    for kind, row in enumerate(losses):
        for reported, loss in enumerate(row):
            if payments[kind] - payments[reported] > loss:
                return False
    return True


def distances(losses):
    """For each kind, list its distances to all kinds, where there is no negative cycle."""
    found = []
    for start in range(len(losses)):
        # The edge between two kinds is what the farther one loses by reporting the nearer one.
        found.append([row[start] for row in losses])
    for middle in range(len(losses)):
        rest = found[middle]
        found = [shortened(lengths, lengths[middle], rest) for lengths in found]
    return found


def shortened(lengths, half, rest):
    """For each end, give its length or, if that is less, the one by a middle: half and the rest."""
    return [min(length, half + further) for length, further in zip(lengths, rest)]


def pivot_payment(instance, agent, profile):
    """Tell what the others lose by the allocation at the profile, beside what is best for them."""
    values = others_values(instance, agent, profile)
    return max(values) - values[instance.allocated(profile)]
