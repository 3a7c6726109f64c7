"""The desk: takes a line of calls on one nest and tells what each of them answers."""

from loopnest.nest import MOST_LOOPS, Nest
from loopnest.reading import ACCESS, DEP, INIT, MEET, STMT, read_calls

MOST_ROUNDS = 64
MOST_STATEMENTS = 3
MOST_ACCESSES = 3
LAST_ARRAY = 7
TWO_ROWS = 8


def answers(calls):
    """What the calls of the line answer, in order, each with how many numbers that is before it."""
    desk = Desk()
    line = []
    for call in read_calls(calls):
        answer = desk.answer(call)
        line.append(len(answer))
        line.extend(answer)
    return line


class Desk:
    """Keeps the nest of one line: none at its beginning."""

    def __init__(self):
        self.nest = None

    def answer(self, call):
        if call.kind == INIT:
            return self.answer_init(call.numbers[0], call.lists[0])
        if self.nest is None:
            return tell(-8, [])
        if call.kind == STMT:
            return answer_stmt(self.nest)
        if call.kind == ACCESS:
            return answer_access(self.nest, call.numbers, call.lists[0])
        if call.kind == MEET:
            return answer_meet(self.nest, call.lists[0], call.lists[1])
        if call.kind == DEP:
            return answer_dep(self.nest, call.numbers[0], call.numbers[1])
        # The other calls aren't written yet: a number that no call answers can't be taken for a true answer.
        return tell(-9, [])

    def answer_init(self, d, n):
        if not loops_go(d, n):
            return tell(-1, [])
        self.nest = Nest(n)
        return tell(0, [])


def tell(number, behind):
    # The 0 says how many bytes are told: no call tells any.
    return [number, 0, len(behind)] + behind


def loops_go(d, n):
    if d < 1 or d > MOST_LOOPS or len(n) != d:
        return False
    product = 1
    for length in n:
        product = product * length
    # It's 0 just where one of the loops doesn't go round at all.
    return 1 <= product <= MOST_ROUNDS


def answer_stmt(nest):
    s = nest.statement_count()
    if s == MOST_STATEMENTS:
        return tell(-2, [])
    nest.add_statement()
    return tell(s, [])


def answer_access(nest, numbers, rows):
    s = numbers[0]
    array = numbers[1]
    if not nest.has_statement(s) or array > LAST_ARRAY or len(rows) != TWO_ROWS:
        return tell(-1, [])
    if nest.access_count(s) == MOST_ACCESSES:
        return tell(-2, [])
    nest.add_access(s, array, numbers[2] != 0, rows)
    return tell(nest.access_count(s), [])


def answer_meet(nest, u, v):
    if not nest.is_instance(u) or not nest.is_instance(v):
        return tell(-1, [])
    return tell(1 if nest.meet(u, v) else 0, [])


def answer_dep(nest, s, t):
    if not nest.has_statement(s) or not nest.has_statement(t):
        return tell(-1, [])
    pair = nest.first_pair(s, t)
    return tell(1 if len(pair) > 0 else 0, pair)
