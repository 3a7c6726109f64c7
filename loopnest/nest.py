"""A nest: its loops, its statements, and the cells that their instances touch."""

MOST_LOOPS = 3


class Nest:
    """Loops and statements; a round is known by its place in the nest's order."""

    def __init__(self, lengths):
        # A loop that there isn't goes round once: then its counter can be 0 alone.
        self.lengths = lengths + [1] * (MOST_LOOPS - len(lengths))
        self.rounds = all_rounds(self.lengths)
        # For each statement, for each round: what the instance touches.
        self.touches = []

    def statement_count(self):
        return len(self.touches)

    def has_statement(self, s):
        return s < len(self.touches)

    def add_statement(self):
        self.touches.append([[] for counters in self.rounds])

    def access_count(self, s):
        # A nest has at least one round, and each access touches a cell in every one.
        return len(self.touches[s][0])

    def add_access(self, s, array, written, rows):
        """Two rows, one behind another, tell the subscripts of the cell that's touched."""
        by_place = self.touches[s]
        for place in range(len(self.rounds)):
            counters = self.rounds[place]
            cell = (array, row_at(rows[:4], counters), row_at(rows[4:], counters))
            by_place[place].append((cell, written))

    def is_instance(self, told):
        if len(told) != MOST_LOOPS + 1:
            return False
        for loop in range(MOST_LOOPS):
            if told[loop] >= self.lengths[loop]:
                return False
        return self.has_statement(told[MOST_LOOPS])

    def touched_by(self, instance):
        place = (instance[0] * self.lengths[1] + instance[1]) * self.lengths[2] + instance[2]
        return self.touches[instance[MOST_LOOPS]][place]

    def meet(self, u, v):
        return touches_meet(self.touched_by(u), self.touched_by(v))

    def first_pair(self, s, t):
        """The first instance of s and later one of t that meet, one behind another; empty if there's none."""
        for earlier in range(len(self.rounds)):
            # Within one round an instance of t is later only if t stands behind s.
            start = earlier if s < t else earlier + 1
            for later in range(start, len(self.rounds)):
                if touches_meet(self.touches[s][earlier], self.touches[t][later]):
                    return self.rounds[earlier] + [s] + self.rounds[later] + [t]
        return []


def all_rounds(lengths):
    """The counters of every round, in the nest's order."""
    rounds = []
    for x in range(lengths[0]):
        for y in range(lengths[1]):
            for z in range(lengths[2]):
                rounds.append([x, y, z])
    return rounds


def row_at(row, counters):
    return row[0] + row[1] * counters[0] + row[2] * counters[1] + row[3] * counters[2]


def touches_meet(some, others):
    """Whether one of each touch the same cell and one of these two is written."""
    for cell, written in some:
        for other_cell, other_written in others:
            if cell == other_cell and (written or other_written):
                return True
    return False
