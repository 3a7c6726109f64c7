"""dep: the first instance of a statement and later one of another that meet."""

import random
import unittest

from lines import (HUGE, LEAST, MOST, NO, WRONG, access, answers, ask, dep, differences, last, loops, meet, read, stmt,
                   write)

ZERO = [0, 0, 0, 0]
X = [0, 1, 0, 0]
Y = [0, 0, 1, 0]
Z = [0, 0, 0, 1]


def pair(u, v):
    return (1, u + v)


class Dep(unittest.TestCase):
    def test_as_told(self):
        self.assertEqual(
            answers([0, 1, 1, 2, 1, 2, 0, 0, 1, 8, 0, 0, 0, 0, 0, 0, 0, 0, 4, 0, 0]),
            [3, 0, 0, 0, 3, 0, 0, 0, 3, 1, 0, 0, 11, 1, 0, 8, 0, 0, 0, 0, 1, 0, 0, 0])

    def test_no_such_statement(self):
        nest = [loops(2), stmt(), stmt(), write(0, ZERO, ZERO), write(1, ZERO, ZERO)]
        for s, t in ((0, 2), (2, 0), (2, 2), (1, 3), (HUGE, 0), (0, HUGE), (HUGE, HUGE)):
            self.assertEqual(last(*nest, dep(s, t)), WRONG)
        self.assertEqual(last(loops(2), dep(0, 0)), WRONG)

    def test_without_accesses(self):
        told = ask(loops(2), stmt(), stmt(), write(0, ZERO, ZERO), dep(0, 1), dep(1, 0), dep(1, 1))
        self.assertEqual(told[4:], [NO, NO, NO])

    def test_none(self):
        self.assertEqual(last(loops(8), stmt(), write(0, X, ZERO), dep(0, 0)), NO)
        self.assertEqual(last(loops(4, 4), stmt(), write(0, X, Y), dep(0, 0)), NO)
        self.assertEqual(last(loops(8), stmt(), read(0, ZERO, ZERO), dep(0, 0)), NO)
        # It meets itself, but nothing later: there's one round.
        self.assertEqual(last(loops(1), stmt(), write(0, ZERO, ZERO), dep(0, 0)), NO)

    def test_within_one_round(self):
        nest = [loops(4), stmt(), stmt(), write(0, X, ZERO), read(1, X, ZERO)]
        self.assertEqual(last(*nest, dep(0, 1)), pair([0, 0, 0, 0], [0, 0, 0, 1]))
        self.assertEqual(last(*nest, dep(1, 0)), NO)

    def test_statements_far_apart(self):
        nest = [loops(1), stmt(), stmt(), stmt(), write(0, ZERO, ZERO), write(2, ZERO, ZERO)]
        self.assertEqual(last(*nest, dep(0, 2)), pair([0, 0, 0, 0], [0, 0, 0, 2]))
        self.assertEqual(last(*nest, dep(2, 0)), NO)
        self.assertEqual(last(*nest, dep(0, 1)), NO)
        self.assertEqual(last(*nest, dep(1, 2)), NO)

    def test_a_later_round_of_the_statement_before(self):
        nest = [loops(4), stmt(), stmt(), read(0, [-1, 1, 0, 0], ZERO), write(1, X, ZERO)]
        self.assertEqual(last(*nest, dep(1, 0)), pair([0, 0, 0, 1], [1, 0, 0, 0]))
        self.assertEqual(last(*nest, dep(0, 1)), NO)

    def test_both_ways(self):
        nest = [loops(2), stmt(), stmt(), write(0, ZERO, ZERO), write(1, ZERO, ZERO)]
        self.assertEqual(last(*nest, dep(0, 1)), pair([0, 0, 0, 0], [0, 0, 0, 1]))
        self.assertEqual(last(*nest, dep(1, 0)), pair([0, 0, 0, 1], [1, 0, 0, 0]))
        self.assertEqual(last(*nest, dep(1, 1)), pair([0, 0, 0, 1], [1, 0, 0, 1]))

    def test_the_earlier_counts_first(self):
        # x meets 5 - x: the pair that lies nearest together is (2, 3), the first is (0, 5).
        nest = [loops(6), stmt(), stmt(), write(0, X, ZERO), read(1, [5, -1, 0, 0], ZERO)]
        self.assertEqual(last(*nest, dep(0, 1)), pair([0, 0, 0, 0], [5, 0, 0, 1]))
        self.assertEqual(last(*nest, dep(1, 0)), pair([0, 0, 0, 1], [5, 0, 0, 0]))

    def test_then_the_later(self):
        # Round 0 touches what rounds 2 and 4 touch by other accesses: 2 goes first.
        nest = [loops(6), stmt(), stmt(), write(0, X, ZERO), read(1, [-4, 1, 0, 0], ZERO), read(1, [-2, 1, 0, 0], ZERO)]
        self.assertEqual(last(*nest, dep(0, 1)), pair([0, 0, 0, 0], [2, 0, 0, 1]))

    def test_not_the_first_instance(self):
        nest = [loops(6), stmt(), stmt(), write(0, X, ZERO), read(1, [4, 0, 0, 0], ZERO)]
        self.assertEqual(last(*nest, dep(0, 1)), pair([4, 0, 0, 0], [4, 0, 0, 1]))
        self.assertEqual(last(*nest, dep(1, 0)), pair([0, 0, 0, 1], [4, 0, 0, 0]))

    def test_loops_count_from_the_outermost(self):
        self.assertEqual(last(loops(2, 3), stmt(), write(0, X, ZERO), dep(0, 0)), pair([0, 0, 0, 0], [0, 1, 0, 0]))
        self.assertEqual(last(loops(2, 3), stmt(), write(0, Y, ZERO), dep(0, 0)), pair([0, 0, 0, 0], [1, 0, 0, 0]))
        self.assertEqual(last(loops(2, 2, 2), stmt(), write(0, X, Y), dep(0, 0)), pair([0, 0, 0, 0], [0, 0, 1, 0]))
        self.assertEqual(last(loops(2, 2, 2), stmt(), write(0, X, Z), dep(0, 0)), pair([0, 0, 0, 0], [0, 1, 0, 0]))
        self.assertEqual(last(loops(2, 2, 2), stmt(), write(0, Y, Z), dep(0, 0)), pair([0, 0, 0, 0], [1, 0, 0, 0]))
        # x + y is alike at 0, 1 and 1, 0: the outer counter is what makes the second one later.
        self.assertEqual(last(loops(2, 2), stmt(), write(0, [0, 1, 1, 0], ZERO), dep(0, 0)),
                         pair([0, 1, 0, 0], [1, 0, 0, 0]))

    def test_no_wrap(self):
        nest = [loops(2), stmt(), stmt(), write(0, [LEAST, 0, 0, 0], ZERO), read(1, [MOST, 1, 0, 0], ZERO)]
        self.assertEqual(ask(*nest, dep(0, 1), dep(1, 0))[-2:], [NO, NO])


def random_nest(source):
    n = source.choice([[2], [3], [5], [2, 3], [3, 3], [1, 4], [2, 2, 2], [3, 1, 2], [2, 3, 2]])
    calls = [loops(*n)]
    count = source.randint(1, 3)
    accesses = [[] for s in range(count)]
    for s in range(count):
        calls.append(stmt())
    for s in range(count):
        for k in range(source.randint(0, 3)):
            e = [source.choice([-1, 0, 0, 0, 1, 2]) for j in range(8)]
            told = (source.randint(0, 1), source.randint(0, 1), e)
            accesses[s].append(told)
            calls.append(access(s, *told))
    return n + [1] * (3 - len(n)), accesses, calls


def cells(accesses, u):
    found = []
    for array, written, e in accesses[u[3]]:
        subscripts = [e[k] + sum(e[k + 1 + l] * u[l] for l in range(3)) for k in (0, 4)]
        found.append((array, subscripts, written))
    return found


def do_meet(accesses, u, v):
    return any(a[:2] == b[:2] and (a[2] or b[2]) for a in cells(accesses, u) for b in cells(accesses, v))


class AgainstTheWords(unittest.TestCase):
    """Nests by chance (always the same ones), against a sorted list of all pairs that meet."""

    def test_meet_and_dep(self):
        source = random.Random(20)
        for turn in range(150):
            n, accesses, calls = random_nest(source)
            instances = [[x, y, z, s] for x in range(n[0]) for y in range(n[1]) for z in range(n[2])
                         for s in range(len(accesses))]
            pairs = [(u, v) for u in instances for v in instances if u < v and do_meet(accesses, u, v)]
            asked = []
            wanted = []
            for s in range(len(accesses)):
                for t in range(len(accesses)):
                    fitting = sorted(p for p in pairs if (p[0][3], p[1][3]) == (s, t))
                    asked.append(dep(s, t))
                    wanted.append(pair(*fitting[0]) if fitting else NO)
            for k in range(60):
                u = source.choice(instances)
                v = source.choice(instances)
                asked.append(meet(u, v))
                wanted.append((1 if do_meet(accesses, u, v) else 0, []))
            with self.subTest(calls=calls):
                self.assertEqual(differences(ask(*calls, *asked)[len(calls):], wanted), [])


if __name__ == "__main__":
    unittest.main()
