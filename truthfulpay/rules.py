"""What alternatives score at a profile, and the allocation rules that take those of the greatest score."""


def score(instance, weights, boosts, profile, alternative):
    """Add up the weighted values of the alternative at the profile, and its boost."""
    total = boosts[alternative]
    for agent, kind in enumerate(profile):
        total += weights[agent] * instance.value(agent, kind, alternative)
    return total


def scores(instance, weights, boosts, profile):
    """List the score of each alternative at the profile."""
    return [score(instance, weights, boosts, profile, alternative)
            for alternative in range(instance.alternative_count)]


def best_alternative(instance, weights, boosts, profile):
    """Tell the alternative with the greatest score at the profile, of equal ones the lowest."""
    found = scores(instance, weights, boosts, profile)
    return found.index(max(found))


def allocate_best(instance, weights, boosts):
    """Allocate to each profile its alternative with the greatest score."""
    instance.allocation = [best_alternative(instance, weights, boosts, profile)
                           for profile in instance.profiles()]


def total_values(instance, profile):
    """List the total value of each alternative at the profile."""
    return scores(instance, [1] * instance.agent_count, [0] * instance.alternative_count, profile)


def others_values(instance, agent, profile):
    """List what each alternative is worth at the profile to all but the agent."""
    weights = [1] * instance.agent_count
    weights[agent] = 0
    return scores(instance, weights, [0] * instance.alternative_count, profile)
