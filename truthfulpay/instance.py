"""The state that the calls work on, and the terms that are told by it alone.

A kind is one of the ways in which an agent may value the alternatives. A profile
has one kind for each agent.
"""


class Workbench:
    """The one object that a list of calls works on; it has no instance at first."""

    def __init__(self):
        self.instance = None


class Instance:
    """Agents with their kinds, and the alternative that is allocated to each profile.

    The allocation has one alternative for each profile, in the order of the profiles.
    """

    def __init__(self, agent_count, alternative_count):
        self.agent_count = agent_count
        self.alternative_count = alternative_count
        self.valuations = [[] for agent in range(agent_count)]
        self.allocation = []

    def is_ready(self):
        """Tell whether every agent has a kind."""
        return all([len(kinds) > 0 for kinds in self.valuations])

    def has_agent(self, agent):
        """Tell whether there is an agent of this number."""
        return 0 <= agent < self.agent_count

    def kind_count(self, agent):
        """Tell how many kinds the agent has."""
        return len(self.valuations[agent])

    def has_kind(self, agent, kind):
        """Tell whether the agent, which there is, has this kind."""
        return 0 <= kind < self.kind_count(agent)

    def has_alternative(self, alternative):
        """Tell whether there is an alternative of this number."""
        return 0 <= alternative < self.alternative_count

    def is_profile(self, profile):
        """Tell whether the list has just one kind for each agent."""
        if len(profile) != self.agent_count:
            return False
        return all([self.has_kind(agent, kind) for agent, kind in enumerate(profile)])

    def profiles(self):
        """List all profiles in lexicographic order."""
        found = [[]]
        for kinds in self.valuations:
            longer = []
            for start in found:
                longer.extend([start + [kind] for kind in range(len(kinds))])
            found = longer
        return found

    def place(self, profile):
        """Tell where the profile stands among all profiles."""
        found = 0
        for kinds, kind in zip(self.valuations, profile):
            found = found * len(kinds) + kind
        return found

    def value(self, agent, kind, alternative):
        """Tell what the alternative is worth to this kind of the agent."""
        return self.valuations[agent][kind][alternative]

    def allocated(self, profile):
        """Tell the alternative that is allocated to the profile."""
        return self.allocation[self.place(profile)]

    def allocated_if(self, agent, kind, profile):
        """Tell what is allocated if the agent reports this kind, the others as in the profile."""
        return self.allocated(profile[:agent] + [kind] + profile[agent + 1:])

    def losses(self, agent, profile):
        """For each kind of the agent, list what it loses by each report, ahead of payments.

        The others report as in the profile; what the agent reports there makes no difference.
        """
        chosen = [self.allocated_if(agent, kind, profile) for kind in range(self.kind_count(agent))]
        found = []
        for valuation, honest in zip(self.valuations[agent], chosen):
            found.append([valuation[honest] - valuation[dishonest] for dishonest in chosen])
        return found

    def append_kind(self, agent, valuation):
        """Give the agent one more kind, and allocate alternative 0 to every profile."""
        self.valuations[agent].append(list(valuation))
        # The profiles are others now, so no former choice can be kept.
        self.allocation = [0 for profile in self.profiles()]
