"""Rows: what four numbers are at a round, and the times that an order's rows give to instances."""

ROW_LENGTH = 4


def row_at(row, counters):
    return row[0] + row[1] * counters[0] + row[2] * counters[1] + row[3] * counters[2]


def time_of(instance, k, rows):
    """What the k rows of the instance's statement are at its round; the rows lie statement by statement."""
    start = instance[3] * k * ROW_LENGTH
    numbers = []
    for j in range(k):
        place = start + j * ROW_LENGTH
        # An instance begins with its round's counters.
        numbers.append(row_at(rows[place:place + ROW_LENGTH], instance))
    return numbers
