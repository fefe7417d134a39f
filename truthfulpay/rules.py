"""The allocation rules: each takes the alternative with the greatest score at every profile."""


def score(instance, weights, boosts, profile, alternative):
    """Add up the weighted values of the alternative at the profile, and its boost."""
    total = boosts[alternative]
    for agent, kind in enumerate(profile):
        total += weights[agent] * instance.value(agent, kind, alternative)
    return total


def best_alternative(instance, weights, boosts, profile):
    """Tell the alternative with the greatest score at the profile, of equal ones the lowest."""
    scores = [score(instance, weights, boosts, profile, alternative)
              for alternative in range(instance.alternative_count)]
    return scores.index(max(scores))


def allocate_best(instance, weights, boosts):
    """Allocate to each profile its alternative with the greatest score."""
    instance.allocation = [best_alternative(instance, weights, boosts, profile)
                           for profile in instance.profiles()]
