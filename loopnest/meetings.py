"""Meetings: which instances of a nest meet, and what follows for orders and steps."""

from loopnest.rows import time_of


class Meetings:
    """Holds for a nest as it is; an instance is known by its place in the nest's order."""

    def __init__(self, instances, touched):
        self.instances = instances
        self.pairs = meeting_pairs(touched)
        self.levels = earliest_steps(len(instances), self.pairs)

    def first_dependence(self, s, t):
        """The first pair of an instance of s and a later one of t, one behind another; empty if there's none."""
        for earlier, later in self.pairs:
            u = self.instances[earlier]
            v = self.instances[later]
            if u[3] == s and v[3] == t:
                return u + v
        return []

    def first_carried(self, loop):
        """The first pair that differs in the loop and in none outside of it; empty if there's none."""
        for earlier, later in self.pairs:
            u = self.instances[earlier]
            v = self.instances[later]
            if u[loop] != v[loop] and u[:loop] == v[:loop]:
                return u + v
        return []

    def first_barred(self, k, rows):
        """The first pair whose earlier instance hasn't the lesser time by these rows; empty if there's none."""
        times = [time_of(instance, k, rows) for instance in self.instances]
        for earlier, later in self.pairs:
            if times[earlier] >= times[later]:
                return self.instances[earlier] + self.instances[later]
        return []


def meeting_pairs(touched):
    """The places of all pairs that meet, the earlier one before the later; the first pair first."""
    pairs = []
    for earlier in range(len(touched)):
        for later in range(earlier + 1, len(touched)):
            if touches_meet(touched[earlier], touched[later]):
                pairs.append((earlier, later))
    return pairs


def touches_meet(some, others):
    """Whether one of each touch the same cell and one of these two is written."""
    for cell, written in some:
        for other_cell, other_written in others:
            if cell == other_cell and (written or other_written):
                return True
    return False


def earliest_steps(count, pairs):
    """For each of so many places the step in which its instance can be done at the earliest."""
    levels = [0] * count
    # A place's pairs as the later one all come before those as the earlier one: then its step is settled.
    for earlier, later in pairs:
        levels[later] = max(levels[later], levels[earlier] + 1)
    return levels
