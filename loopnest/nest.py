"""A nest: its loops, its statements, and the cells that their instances touch."""

from loopnest.meetings import Meetings, touches_meet
from loopnest.rows import ROW_LENGTH, row_at

MOST_LOOPS = 3


class Nest:
    """Loops and statements; a round is known by its place in the nest's order."""

    def __init__(self, lengths):
        self.depth = len(lengths)
        # A loop that there isn't goes round once: then its counter can be 0 alone.
        self.lengths = lengths + [1] * (MOST_LOOPS - len(lengths))
        self.rounds = all_rounds(self.lengths)
        # For each statement, for each round: what the instance touches.
        self.touches = []
        # To find all pairs takes long, so they are found when asked for, and kept until the nest changes.
        self.found = None

    def has_loop(self, loop):
        return loop < self.depth

    def statement_count(self):
        return len(self.touches)

    def has_statement(self, s):
        return s < len(self.touches)

    def add_statement(self):
        self.touches.append([[] for counters in self.rounds])
        self.found = None

    def access_count(self, s):
        # A nest has at least one round, and each access touches a cell in every one.
        return len(self.touches[s][0])

    def add_access(self, s, array, written, rows):
        """Two rows, one behind another, tell the subscripts of the cell that's touched."""
        by_place = self.touches[s]
        for place in range(len(self.rounds)):
            counters = self.rounds[place]
            cell = (array, row_at(rows[:ROW_LENGTH], counters), row_at(rows[ROW_LENGTH:], counters))
            by_place[place].append((cell, written))
        self.found = None

    def is_instance(self, told):
        if len(told) != MOST_LOOPS + 1:
            return False
        for loop in range(MOST_LOOPS):
            if told[loop] >= self.lengths[loop]:
                return False
        return self.has_statement(told[MOST_LOOPS])

    def round_place(self, instance):
        return (instance[0] * self.lengths[1] + instance[1]) * self.lengths[2] + instance[2]

    def touched_by(self, instance):
        return self.touches[instance[MOST_LOOPS]][self.round_place(instance)]

    def meet(self, u, v):
        return touches_meet(self.touched_by(u), self.touched_by(v))

    def all_instances(self):
        """All instances, in the nest's order."""
        instances = []
        for counters in self.rounds:
            for s in range(len(self.touches)):
                instances.append(counters + [s])
        return instances

    def meetings(self):
        """What meets in the nest as it is now."""
        if self.found is None:
            instances = self.all_instances()
            self.found = Meetings(instances, [self.touched_by(instance) for instance in instances])
        return self.found

    def level_of(self, instance):
        place = self.round_place(instance) * len(self.touches) + instance[MOST_LOOPS]
        return self.meetings().levels[place]


def all_rounds(lengths):
    """The counters of every round, in the nest's order."""
    rounds = []
    for x in range(lengths[0]):
        for y in range(lengths[1]):
            for z in range(lengths[2]):
                rounds.append([x, y, z])
    return rounds
