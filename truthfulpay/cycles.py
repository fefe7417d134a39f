"""Cycles of an agent's kinds, and the first negative one of an allocation."""


def cycles_of(count, most):
    """List the cycles of two kinds and more, up to so many, among as many kinds as are counted.

    Those of fewer kinds come first, those of equally many in lexicographic order.
    """
    found = []
    paths = [[kind] for kind in range(count)]
    for size in range(2, most + 1):
        longer = []
        for path in paths:
            # The first kind of a cycle is its lowest.
            longer.extend([path + [kind] for kind in range(path[0] + 1, count) if kind not in path])
        paths = longer
        found.extend(paths)
    return found


def cycle_length(losses, cycle):
    """Add up what each kind of the cycle loses by reporting the one ahead of it, the first by the last."""
    return sum([losses[kind][cycle[place - 1]] for place, kind in enumerate(cycle)])


def first_negative(losses, cycles):
    """Tell the first of the cycles with a length below 0, or None."""
    for cycle in cycles:
        if cycle_length(losses, cycle) < 0:
            return cycle
    return None


def base_profiles(instance, agent):
    """List the profiles in which the agent reports kind 0, in their order."""
    return [profile for profile in instance.profiles() if profile[agent] == 0]


def first_violation(instance, most):
    """Find the first agent, base profile and cycle of at most so many kinds that is negative.

    These are given as one list, or None if there is no such cycle.
    """
    for agent in range(instance.agent_count):
        cycles = cycles_of(instance.kind_count(agent), most)
        for profile in base_profiles(instance, agent):
            cycle = first_negative(instance.losses(agent, profile), cycles)
            if cycle is not None:
                return [agent] + profile + cycle
    return None
