"""The desk: takes a line of calls on one nest and tells what each of them answers."""

from loopnest.nest import MOST_LOOPS, Nest
from loopnest.reading import ACCESS, CARRIED, DEP, INIT, LEVEL, MEET, STEPS, STMT, TRY, read_calls
from loopnest.rows import ROW_LENGTH

MOST_ROUNDS = 64
MOST_STATEMENTS = 3
MOST_ACCESSES = 3
LAST_ARRAY = 7
LONGEST_TIME = 4


def answers(calls):
    """What the calls of the line answer, in order, each with how many numbers that is before it."""
    desk = Desk()
    line = []
    for call in read_calls(calls):
        answer = desk.answer(call)
        line.append(len(answer))
        line.extend(answer)
    return line


class Desk:
    """Keeps the nest of one line: none at its beginning."""

    def __init__(self):
        self.nest = None

    def answer(self, call):
        if call.kind == INIT:
            return self.answer_init(call.numbers[0], call.lists[0])
        if self.nest is None:
            return tell(-8, [])
        if call.kind == STMT:
            return answer_stmt(self.nest)
        if call.kind == ACCESS:
            return answer_access(self.nest, call.numbers, call.lists[0])
        if call.kind == MEET:
            return answer_meet(self.nest, call.lists[0], call.lists[1])
        if call.kind == DEP:
            return answer_dep(self.nest, call.numbers[0], call.numbers[1])
        if call.kind == CARRIED:
            return answer_carried(self.nest, call.numbers[0])
        if call.kind == TRY:
            return answer_try(self.nest, call.numbers[0], call.lists[0])
        if call.kind == STEPS:
            return answer_steps(self.nest)
        if call.kind == LEVEL:
            return answer_level(self.nest, call.lists[0])
        # The only kind that's left is at.
        return answer_at(self.nest, call.numbers[0])

    def answer_init(self, d, n):
        if not loops_go(d, n):
            return tell(-1, [])
        self.nest = Nest(n)
        return tell(0, [])


def tell(number, behind):
    # The 0 says how many bytes are told: no call tells any.
    return [number, 0, len(behind)] + behind


def tell_pair(pair):
    """An empty pair says that there's none."""
    return tell(1 if len(pair) > 0 else 0, pair)


def loops_go(d, n):
    if d < 1 or d > MOST_LOOPS or len(n) != d:
        return False
    product = 1
    for length in n:
        product = product * length
    # It's 0 just where one of the loops doesn't go round at all.
    return 1 <= product <= MOST_ROUNDS


def answer_stmt(nest):
    s = nest.statement_count()
    if s == MOST_STATEMENTS:
        return tell(-2, [])
    nest.add_statement()
    return tell(s, [])


def answer_access(nest, numbers, rows):
    s = numbers[0]
    array = numbers[1]
    if not nest.has_statement(s) or array > LAST_ARRAY or len(rows) != 2 * ROW_LENGTH:
        return tell(-1, [])
    if nest.access_count(s) == MOST_ACCESSES:
        return tell(-2, [])
    nest.add_access(s, array, numbers[2] != 0, rows)
    return tell(nest.access_count(s), [])


def answer_meet(nest, u, v):
    if not nest.is_instance(u) or not nest.is_instance(v):
        return tell(-1, [])
    return tell(1 if nest.meet(u, v) else 0, [])


def answer_dep(nest, s, t):
    if not nest.has_statement(s) or not nest.has_statement(t):
        return tell(-1, [])
    return tell_pair(nest.meetings().first_dependence(s, t))


def answer_carried(nest, loop):
    if not nest.has_loop(loop):
        return tell(-1, [])
    return tell_pair(nest.meetings().first_carried(loop))


def answer_try(nest, k, rows):
    if k < 1 or k > LONGEST_TIME or len(rows) != nest.statement_count() * k * ROW_LENGTH:
        return tell(-1, [])
    return tell_pair(nest.meetings().first_barred(k, rows))


def answer_steps(nest):
    # The steps go from 0 to the last that one needs; without instances there's none.
    return tell(max(nest.meetings().levels, default=-1) + 1, [])


def answer_level(nest, u):
    if not nest.is_instance(u):
        return tell(-1, [])
    return tell(nest.level_of(u), [])


def answer_at(nest, step):
    return tell(nest.meetings().levels.count(step), [])
