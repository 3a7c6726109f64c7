"""Reading a line: one list of whole numbers taken apart into calls."""

INIT = 0
STMT = 1
ACCESS = 2
MEET = 3
DEP = 4
CARRIED = 5
TRY = 6
STEPS = 7
LEVEL = 8

# By the call's number: how many whole numbers it has, then how many lists.
SHAPES = ((1, 1), (0, 0), (3, 1), (0, 2), (2, 0), (1, 0), (1, 1), (0, 0), (0, 1), (1, 0))


class Call:
    """One call: which it is, its whole numbers, and its lists."""

    def __init__(self, kind, numbers, lists):
        self.kind = kind
        self.numbers = numbers
        self.lists = lists


def read_calls(line):
    """All calls of the line, in order; they share nothing with it."""
    calls = []
    place = 0
    while place < len(line):
        kind = line[place]
        shape = SHAPES[kind]
        behind_numbers = place + 1 + shape[0]
        numbers = line[place + 1:behind_numbers]
        lists = read_lists(line, behind_numbers, shape[1])
        calls.append(Call(kind, numbers, lists))
        place = behind_numbers + sum([1 + len(row) for row in lists])
    return calls


def read_lists(line, place, how_many):
    """So many lists from the place on, each of which has its count before it."""
    lists = []
    for k in range(how_many):
        start = place + 1
        end = start + line[place]
        lists.append(line[start:end])
        place = end
    return lists
