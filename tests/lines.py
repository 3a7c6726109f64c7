"""Writing calls, asking them as one line, and taking the answers apart."""

from loopnest.desk import answers

HUGE = 18446744073709551615
LEAST = -9223372036854775808
MOST = 9223372036854775807

NO_NEST = (-8, [])
WRONG = (-1, [])
FULL = (-2, [])
DONE = (0, [])
YES = (1, [])
NO = (0, [])


def counted(row):
    return [len(row)] + list(row)


def init(d, n):
    return [0, d] + counted(n)


def loops(*n):
    return init(len(n), n)


def stmt():
    return [1]


def access(s, array, write, e):
    return [2, s, array, write] + counted(e)


def meet(u, v):
    return [3] + counted(u) + counted(v)


def dep(s, t):
    return [4, s, t]


def carried(l):
    return [5, l]


def attempt(k, rows):
    return [6, k] + counted(rows)


def steps():
    return [7]


def level(u):
    return [8] + counted(u)


def at(l):
    return [9, l]


def write(s, *rows, array=0):
    return access(s, array, 1, [number for row in rows for number in row])


def read(s, *rows, array=0):
    return access(s, array, 0, [number for row in rows for number in row])


def line_of(calls):
    return [number for call in calls for number in call]


def parted(told, how_many):
    """The answers of so many calls, each as its number and the numbers behind it."""
    parts = []
    place = 0
    while place < len(told):
        count = told[place]
        answer = told[place + 1:place + 1 + count]
        if len(answer) != count or count < 3 or answer[1] != 0 or answer[2] != count - 3:
            raise AssertionError(f"not the form of an answer: {answer} in {told}")
        parts.append((answer[0], answer[3:]))
        place += 1 + count
    if len(parts) != how_many:
        raise AssertionError(f"{how_many} calls, {len(parts)} answers")
    return parts


def differences(told, wanted):
    """The first places where long lists differ; unittest's own comparison of such lists may take hours."""
    places = [k for k in range(min(len(told), len(wanted))) if told[k] != wanted[k]]
    found = [(k, told[k], wanted[k]) for k in places[:5]]
    if len(told) != len(wanted):
        found.append(("how many", len(told), len(wanted)))
    return found


def ask(*calls):
    return parted(answers(line_of(calls)), len(calls))


def last(*calls):
    return ask(*calls)[-1]
