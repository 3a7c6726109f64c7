"""Nests by chance (always the same ones): each answer against the document's words, and the promises."""

import random
import unittest

from lines import HUGE, LEAST, MOST, NO, ask, at, attempt, carried, differences, level, steps
from words import MANY_LOOPS, Words, lesser, nest_of, own_order, random_access, random_nest, random_order, written


def random_list(source, most):
    return [source.choice([0, 0, 0, 1, 1, 2, HUGE]) for k in range(source.choice([0, 3, 4, 4, 4, 5, most]))]


def random_instance(source, words):
    if source.random() < 0.1 or not words.instances():
        return random_list(source, 10)
    u = source.choice(words.instances())
    if source.random() < 0.1:
        u[source.randrange(4)] += source.choice([1, 2, 5])
    return u


def random_try(source, count):
    if source.random() < 0.1:
        return source.choice([0, 1, 2, 3, 4, 5, HUGE]), [source.choice([LEAST, -1, 0, 1, MOST])] * source.randint(0, 80)
    return random_order(source, count)


def random_call(source, words):
    """One call by chance on the nest as it is: mostly one that's taken."""
    count = len(words.statements)
    name = source.choice(["init", "stmt", "access", "access", "access", "meet", "meet", "dep", "dep", "carried",
                          "carried", "attempt", "attempt", "attempt", "steps", "level", "level", "at", "at"])
    if name == "init":
        if source.random() < 0.5:
            return (name, (source.randint(0, 4), random_list(source, 10)))
        n = source.choice(MANY_LOOPS)
        return (name, (len(n), n))
    if name in ("stmt", "steps"):
        return (name, ())
    if name == "access":
        if source.random() < 0.1:
            return (name, (source.randint(0, 3), source.choice([7, 8, HUGE]), 1, [0] * source.choice([0, 7, 8, 9, 20])))
        return random_access(source, source.randrange(max(count, 1)))
    if name == "meet":
        return (name, (random_instance(source, words), random_instance(source, words)))
    if name == "dep":
        return (name, (source.randint(0, max(count - 1, 0)), source.randint(0, max(count - 1, 0))))
    if name == "attempt":
        return (name, random_try(source, count))
    if name == "level":
        return (name, (random_instance(source, words),))
    return (name, (source.choice([0, 0, 1, 1, 2, 3, 4, HUGE]),))


def questions(source, words):
    """Every call that asks, for all that can be asked of a small nest."""
    count = len(words.statements)
    instances = words.instances()
    asked = [("dep", (s, t)) for s in range(count + 1) for t in range(count + 1)]
    asked += [("carried", (l,)) for l in (0, 1, 2, 3, HUGE)]
    asked += [("attempt", random_order(source, count)) for k in range(12)]
    asked += [("attempt", (4, own_order(count))), ("steps", ())]
    asked += [("level", (u,)) for u in instances]
    asked += [("at", (l,)) for l in range(5)]
    asked += [("meet", (source.choice(instances), source.choice(instances))) for k in range(20) if instances]
    return asked


class AgainstTheWords(unittest.TestCase):
    def held(self, calls):
        words = Words()
        wanted = [words.answer(call) for call in calls]
        self.assertEqual(differences(ask(*[written(call) for call in calls]), wanted), [])
        return wanted

    def test_nests(self):
        source = random.Random(51)
        for turn in range(150):
            nest = random_nest(source)
            asked = questions(source, nest_of(nest))
            with self.subTest(nest=nest):
                self.held(nest + asked)

    def test_lines(self):
        source = random.Random(52)
        seen = {}
        for turn in range(250):
            words = Words()
            calls = random_nest(source) if source.random() < 0.8 else []
            for call in calls:
                words.answer(call)
            for k in range(30):
                calls = calls + [random_call(source, words)]
                words.answer(calls[-1])
            with self.subTest(calls=calls):
                for call, answer in zip(calls, self.held(calls)):
                    seen[(call[0], min(answer[0], 2))] = True
        # Every sort of answer came up.
        for name in ("stmt", "access", "meet", "dep", "carried", "attempt", "steps", "level", "at"):
            self.assertIn((name, -8), seen)
        for name in ("init", "access", "meet", "dep", "carried", "attempt", "level"):
            self.assertIn((name, -1), seen)
        for key in (("stmt", -2), ("access", -2), ("steps", 0), ("steps", 1), ("steps", 2), ("at", 0), ("at", 2)):
            self.assertIn(key, seen)
        for name in ("meet", "dep", "carried", "attempt", "level"):
            self.assertIn((name, 0), seen)
            self.assertIn((name, 1), seen)

    def test_large_nests(self):
        source = random.Random(53)
        for n in ([64], [8, 8], [4, 4, 4], [2, 4, 8], [21, 3], [3, 3, 7]):
            nest = [("init", (len(n), n))] + [("stmt", ())] * 3
            nest += [random_access(source, s) for s in range(3) for k in range(2)]
            asked = [("carried", (l,)) for l in range(3)] + [("steps", ()), ("at", (1,)), ("dep", (2, 0))]
            asked += [("attempt", random_order(source, 3)) for k in range(3)] + [("attempt", (4, own_order(3)))]
            asked += [("level", (source.choice(nest_of(nest).instances()),)) for k in range(3)]
            with self.subTest(nest=nest):
                self.held(nest + asked)


class Machine:
    """Does instances one after another, whatever they mean: what's written is told by what was read and by whom."""

    def __init__(self, words):
        self.words = words
        self.kinds = {}

    def run(self, instances):
        memory = {}
        for u in instances:
            cells = self.words.cells(u)
            got = tuple(memory.get(cell, -1) for cell, writes in cells if not writes)
            for k, (cell, writes) in enumerate(cells):
                if writes:
                    # Each different meaning is a number of its own.
                    memory[cell] = self.kinds.setdefault((tuple(u), k, got), len(self.kinds))
        return memory


class Promises(unittest.TestCase):
    def setUp(self):
        source = random.Random(54)
        self.source = source
        self.nests = [random_nest(source) for k in range(120)]

    def told(self, nest, *calls):
        return ask(*[written(call) for call in nest], *calls)[len(nest):]

    def shuffled(self, instances):
        return self.source.sample(instances, len(instances))

    def test_an_order_that_is_not_barred_does_what_the_nest_does(self):
        turned = 0
        for nest in self.nests:
            words = nest_of(nest)
            instances = words.instances()
            machine = Machine(words)
            wanted = machine.run(instances)
            for turn in range(12):
                k, rows = random_order(self.source, len(words.statements))
                if self.told(nest, attempt(k, rows)) == [NO]:
                    for again in range(3):
                        done = sorted(self.shuffled(instances), key=lambda u: words.time(k, rows, u))
                        turned += done != instances and words.pairs() != []
                        self.assertEqual(machine.run(done), wanted, (nest, k, rows))
        self.assertGreater(turned, 100)

    def test_a_pair_that_is_told_is_one(self):
        refused = 0
        for nest in self.nests:
            words = nest_of(nest)
            for turn in range(12):
                k, rows = random_order(self.source, len(words.statements))
                number, told = self.told(nest, attempt(k, rows))[0]
                pairs = words.pairs()
                wrong = [p for p in pairs if not lesser(words.time(k, rows, p[0]), words.time(k, rows, p[1]))]
                self.assertEqual(number, 1 if wrong else 0)
                if number == 1:
                    refused += 1
                    self.assertEqual(len(told), 8)
                    self.assertIn([told[:4], told[4:]], wrong)
                    self.assertTrue(words.do_meet(told[:4], told[4:]) and told[:4] < told[4:])
        self.assertGreater(refused, 100)

    def test_steps_are_the_fewest(self):
        for nest in self.nests:
            words = nest_of(nest)
            instances = words.instances()
            answered = self.told(nest, steps(), *[level(u) for u in instances])
            levels = {tuple(u): answer[0] for u, answer in zip(instances, answered[1:])}
            pairs = [(tuple(u), tuple(v)) for u, v in words.pairs()]
            self.assertTrue(all(levels[u] < levels[v] for u, v in pairs))
            # Each that isn't done at once waits for one of the step before: so there's a chain through all steps.
            for v in levels:
                self.assertTrue(levels[v] == 0 or any(w == v and levels[u] == levels[v] - 1 for u, w in pairs))
            self.assertEqual(answered[0][0], len(set(levels.values())))
            counts = self.told(nest, *[at(l) for l in range(answered[0][0])])
            self.assertEqual(sum(answer[0] for answer in counts), len(instances))
            machine = Machine(words)
            wanted = machine.run(instances)
            done = sorted(self.shuffled(instances), key=lambda u: levels[tuple(u)])
            self.assertEqual(machine.run(done), wanted)

    def test_the_nests_own_order_is_never_barred(self):
        for nest in self.nests:
            count = len(nest_of(nest).statements)
            self.assertEqual(self.told(nest, attempt(4, own_order(count))), [NO])

    def test_what_no_loop_carries_meets_within_a_round(self):
        for nest in self.nests:
            words = nest_of(nest)
            loops_told = range(len(words.n))
            carrying = [l for l in loops_told if self.told(nest, carried(l))[0][0] == 1]
            apart = [p for p in words.pairs() if p[0][:3] != p[1][:3]]
            firsts = {min(l for l in range(3) if u[l] != v[l]) for u, v in apart}
            self.assertEqual(set(carrying), firsts)
            # Run backwards, or at once, the loops that carry nothing change nothing.
            rows = []
            for s in range(len(words.statements)):
                for l in range(3):
                    row = [0, 0, 0, 0]
                    row[l + 1] = 1 if l in carrying else self.source.choice([-1, 0, 1])
                    rows += row
                rows += [s, 0, 0, 0]
            self.assertEqual(self.told(nest, attempt(4, rows)), [NO])


class Ends(unittest.TestCase):
    """Rows and subscripts at the ends of the signed range, by chance."""

    def test_no_wrap(self):
        source = random.Random(55)
        numbers = [LEAST, LEAST + 1, -1, 0, 0, 0, 1, MOST - 1, MOST]
        for turn in range(100):
            n = source.choice(MANY_LOOPS)
            count = source.randint(1, 3)
            nest = [("init", (len(n), n))] + [("stmt", ())] * count
            for s in range(count):
                for k in range(source.randint(1, 2)):
                    e = [source.choice(numbers) if source.random() < 0.3 else 0 for j in range(8)]
                    nest.append(("access", (s, 0, source.randint(0, 1), e)))
            asked = [("steps", ()), ("carried", (0,)), ("dep", (0, count - 1))]
            for j in range(6):
                k = source.randint(1, 4)
                asked.append(("attempt", (k, [source.choice(numbers) for i in range(4 * k * count)])))
            words = Words()
            wanted = [words.answer(call) for call in nest + asked]
            with self.subTest(nest=nest, asked=asked):
                self.assertEqual(differences(ask(*[written(call) for call in nest + asked]), wanted), [])


if __name__ == "__main__":
    unittest.main()
