"""The document's words, done slowly: what a line of calls must answer, from all pairs of instances, one by one."""

from lines import access, at, attempt, carried, dep, init, level, meet, steps, stmt

MANY_LOOPS = [[1], [2], [3], [5], [7], [1, 1], [2, 3], [3, 3], [1, 4], [4, 1], [2, 2, 2], [3, 1, 2], [2, 3, 2],
              [1, 1, 4]]


class Words:
    """A nest as the document tells of it. Answers are pairs: the number, the numbers behind it."""

    def __init__(self):
        self.n = None
        self.statements = []

    def answer(self, call):
        name, told = call
        if name != "init" and self.n is None:
            return (-8, [])
        return getattr(self, name)(*told)

    def instances(self):
        if self.n is None:
            return []
        n = self.n + [1] * (3 - len(self.n))
        return [[x, y, z, s] for x in range(n[0]) for y in range(n[1]) for z in range(n[2])
                for s in range(len(self.statements))]

    def cells(self, u):
        found = []
        for array, written, e in self.statements[u[3]]:
            first, second = [row[0] + row[1] * u[0] + row[2] * u[1] + row[3] * u[2] for row in (e[:4], e[4:])]
            found.append(((array, first, second), written))
        return found

    def do_meet(self, u, v):
        return any(c == d and (w or x) for c, w in self.cells(u) for d, x in self.cells(v))

    def pairs(self):
        """All two that meet, the first ones first: lists are compared as the nest's order compares."""
        cells = {tuple(u): self.cells(u) for u in self.instances()}
        return sorted([list(u), list(v)] for u in cells for v in cells
                      if u < v and any(c == d and (w or x) for c, w in cells[u] for d, x in cells[v]))

    def done_in(self):
        """The instances step by step: in each those of which all earlier ones that they meet are done before."""
        before = {tuple(v): [] for v in self.instances()}
        for u, v in self.pairs():
            before[tuple(v)].append(tuple(u))
        left = list(before)
        done = []
        while left:
            waiting = set(left)
            step = [v for v in left if not any(u in waiting for u in before[v])]
            left = [v for v in left if v not in step]
            done.append([list(v) for v in step])
        return done

    def first(self, fitting):
        return (1, fitting[0][0] + fitting[0][1]) if fitting else (0, [])

    def init(self, d, n):
        product = 1
        for length in n:
            product *= length
        if d not in (1, 2, 3) or len(n) != d or 0 in n or product > 64:
            return (-1, [])
        self.n = list(n)
        self.statements = []
        return (0, [])

    def stmt(self):
        if len(self.statements) == 3:
            return (-2, [])
        self.statements.append([])
        return (len(self.statements) - 1, [])

    def access(self, s, array, write, e):
        if s >= len(self.statements) or array > 7 or len(e) != 8:
            return (-1, [])
        if len(self.statements[s]) == 3:
            return (-2, [])
        self.statements[s].append((array, write != 0, list(e)))
        return (len(self.statements[s]), [])

    def meet(self, u, v):
        if list(u) not in self.instances() or list(v) not in self.instances():
            return (-1, [])
        return (1 if self.do_meet(u, v) else 0, [])

    def dep(self, s, t):
        if max(s, t) >= len(self.statements):
            return (-1, [])
        return self.first([p for p in self.pairs() if (p[0][3], p[1][3]) == (s, t)])

    def carried(self, l):
        if l >= len(self.n):
            return (-1, [])
        return self.first([[u, v] for u, v in self.pairs()
                           if all(u[outer] == v[outer] for outer in range(l)) and u[l] != v[l]])

    def time(self, k, rows, u):
        mine = rows[4 * k * u[3]:4 * k * (u[3] + 1)]
        return [mine[j] + mine[j + 1] * u[0] + mine[j + 2] * u[1] + mine[j + 3] * u[2] for j in range(0, 4 * k, 4)]

    def attempt(self, k, rows):
        if k not in (1, 2, 3, 4) or len(rows) != 4 * k * len(self.statements):
            return (-1, [])
        return self.first([[u, v] for u, v in self.pairs() if not lesser(self.time(k, rows, u), self.time(k, rows, v))])

    def steps(self):
        return (len(self.done_in()), [])

    def level(self, u):
        if list(u) not in self.instances():
            return (-1, [])
        return ([list(u) in step for step in self.done_in()].index(True), [])

    def at(self, l):
        done = self.done_in()
        return (len(done[l]) if l < len(done) else 0, [])


def lesser(time, other):
    for k in range(len(time)):
        if time[k] != other[k]:
            return time[k] < other[k]
    return False


def written(call):
    """A call by its name and what it's told, as the numbers of a line."""
    name, told = call
    writers = {"init": init, "stmt": stmt, "access": access, "meet": meet, "dep": dep, "carried": carried,
               "attempt": attempt, "steps": steps, "level": level, "at": at}
    return writers[name](*told)


def random_row(source):
    return [source.choice([-2, -1, 0, 0, 0, 0, 1, 1, 2]) for j in range(4)]


def random_access(source, s):
    e = random_row(source) + (random_row(source) if source.random() < 0.4 else [0] * 4)
    return ("access", (s, source.choice([0, 0, 0, 1, 7]), source.choice([0, 1, 1, 5]), e))


def random_nest(source):
    """The calls that make a nest, by name."""
    n = source.choice(MANY_LOOPS)
    calls = [("init", (len(n), n))]
    count = source.choice([0, 1, 1, 2, 2, 3, 3])
    calls += [("stmt", ())] * count
    for s in range(count):
        calls += [random_access(source, s) for k in range(source.choice([0, 1, 1, 2, 3]))]
    return calls


def nest_of(calls):
    words = Words()
    for call in calls:
        words.answer(call)
    return words


def own_order(count):
    """The rows of the nest's own order: the three counters, then a constant for the statement."""
    return [number for s in range(count) for number in [0, 1, 0, 0, 0, 0, 1, 0, 0, 0, 0, 1, s, 0, 0, 0]]


def random_order(source, count):
    """Times by chance, or the nest's own order a little changed: of these more are allowed."""
    if source.random() < 0.5:
        k = source.randint(1, 4)
        return k, [number for j in range(k * count) for number in random_row(source)]
    rows = own_order(count)
    for turn in range(source.randint(0, 4)):
        if rows:
            rows[source.randrange(len(rows))] = source.choice([-1, 0, 1, 2])
    return 4, rows
