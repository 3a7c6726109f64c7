"""steps, level and at: in how few steps all can be done, and which instance when."""

import unittest

from lines import DONE, HUGE, MOST, NO, WRONG, ask, at, last, level, loops, read, steps, stmt, write

ZERO = [0, 0, 0, 0]
X = [0, 1, 0, 0]
Y = [0, 0, 1, 0]
Z = [0, 0, 0, 1]


def constant(number):
    return [number, 0, 0, 0]


class Nests(unittest.TestCase):
    def all_done(self, nest, levels):
        """levels: instances in the nest's order, as tuples, and the step of each."""
        told = ask(*nest, steps(), *[level(u) for u in levels])[len(nest):]
        self.assertEqual(told[0], (max(levels.values()) + 1, []))
        self.assertEqual(dict(zip(levels, told[1:])), {u: (levels[u], []) for u in levels})
        count = told[0][0]
        by_step = ask(*nest, *[at(l) for l in range(count + 2)])[len(nest):]
        self.assertEqual(by_step, [(list(levels.values()).count(l), []) for l in range(count + 2)])


class Steps(Nests):
    def test_without_statements(self):
        for n in ([1], [64], [8, 8], [4, 4, 4]):
            self.assertEqual(ask(loops(*n), steps(), at(0), at(1), at(HUGE)), [DONE, NO, NO, NO, NO])

    def test_none_meet(self):
        for nest in ([loops(4, 4, 4), stmt()],
                     [loops(64), stmt(), stmt(), stmt()],
                     [loops(64), stmt(), write(0, X, ZERO)],
                     [loops(64), stmt(), stmt(), read(0, ZERO, ZERO), read(1, ZERO, ZERO)],
                     [loops(4, 4), stmt(), stmt(), write(0, X, Y), write(1, X, Y, array=1)],
                     [loops(1), stmt(), write(0, ZERO, ZERO)]):
            self.assertEqual(last(*nest, steps()), (1, []))
            self.assertEqual(last(*nest, at(1)), (0, []))

    def test_a_chain_as_long_as_the_nest(self):
        for n in ([64], [8, 8], [4, 4, 4], [2, 32], [1, 1, 64]):
            self.assertEqual(last(loops(*n), stmt(), write(0, ZERO, ZERO), steps()), (64, []))
            nest = [loops(*n), stmt(), stmt(), stmt()] + [write(s, ZERO, ZERO) for s in range(3)]
            self.assertEqual(ask(*nest, steps(), at(0), at(191), at(192))[-4:], [(192, []), (1, []), (1, []), (0, [])])

    def test_each_round_after_the_one_before(self):
        nest = [loops(5), stmt(), write(0, X, ZERO), read(0, [-1, 1, 0, 0], ZERO)]
        self.all_done(nest, {(x, 0, 0, 0): x for x in range(5)})
        # Read before it's written counts as well.
        nest = [loops(5), stmt(), write(0, X, ZERO), read(0, [1, 1, 0, 0], ZERO)]
        self.all_done(nest, {(x, 0, 0, 0): x for x in range(5)})

    def test_those_right_before_need_not_be_waited_for(self):
        nest = [loops(7), stmt(), write(0, X, ZERO), read(0, [-3, 1, 0, 0], ZERO)]
        self.all_done(nest, {(x, 0, 0, 0): x // 3 for x in range(7)})
        # Only 0 and 6 meet: round 0 reads what round 6 writes.
        nest = [loops(7), stmt(), write(0, X, ZERO), read(0, [6, -7, 0, 0], ZERO)]
        self.all_done(nest, {(x, 0, 0, 0): 1 if x == 6 else 0 for x in range(7)})

    def test_readers_between_writers(self):
        # All rounds read cell 2, which round 2 writes: those behind it wait for it, those before it are waited for.
        nest = [loops(6), stmt(), write(0, X, ZERO), read(0, constant(2), ZERO)]
        self.all_done(nest, {(x, 0, 0, 0): [0, 0, 1, 2, 2, 2][x] for x in range(6)})

    def test_the_longest_chain_counts(self):
        # A late one that meets two: one of step 0 and one of step 3.
        nest = [loops(6), stmt(), stmt(), write(0, X, ZERO), read(0, [-1, 1, 0, 0], ZERO)]
        nest += [read(1, constant(0), ZERO), read(1, constant(3), ZERO)]
        # Statement 1 reads cells 0 and 3: its rounds 0 to 2 come before round 3 of statement 0.
        levels = {}
        for x in range(6):
            levels[(x, 0, 0, 0)] = x
            levels[(x, 0, 0, 1)] = 1 if x < 3 else 4
        self.all_done(nest, levels)

    def test_several_statements_in_one_round(self):
        nest = [loops(2), stmt(), stmt(), stmt(), write(0, X, ZERO), read(1, X, ZERO), read(2, X, ZERO)]
        self.all_done(nest, {(x, 0, 0, s): [0, 1, 1][s] for x in range(2) for s in range(3)})
        nest = [loops(2), stmt(), stmt(), stmt(), write(0, X, ZERO), read(1, X, ZERO), write(1, X, ZERO, array=1),
                read(2, X, ZERO, array=1)]
        self.all_done(nest, {(x, 0, 0, s): s for x in range(2) for s in range(3)})
        # The last one meets none of the round.
        nest = [loops(2), stmt(), stmt(), stmt(), write(0, X, ZERO), write(1, X, ZERO), write(2, X, ZERO, array=1)]
        self.all_done(nest, {(x, 0, 0, s): [0, 1, 0][s] for x in range(2) for s in range(3)})

    def test_from_round_to_round_through_statements(self):
        nest = [loops(4), stmt(), stmt(), write(0, X, ZERO), read(0, X, ZERO, array=1), read(1, X, ZERO),
                write(1, [1, 1, 0, 0], ZERO, array=1)]
        self.all_done(nest, {(x, 0, 0, s): 2 * x + s for x in range(4) for s in range(2)})

    def test_a_wave(self):
        nest = [loops(3, 4), stmt(), write(0, X, Y), read(0, [-1, 1, 0, 0], Y), read(0, X, [-1, 0, 1, 0])]
        self.all_done(nest, {(x, y, 0, 0): x + y for x in range(3) for y in range(4)})
        nest = [loops(2, 3, 2), stmt(), write(0, X, [0, 0, 1, 10])]
        self.all_done(nest, {(x, y, z, 0): 0 for x in range(2) for y in range(3) for z in range(2)})

    def test_inner_and_outer_loops(self):
        rounds = [(x, y, z, 0) for x in range(2) for y in range(3) for z in range(4)]
        nest = [loops(2, 3, 4), stmt()]
        self.all_done(nest + [write(0, X, Y)], {u: u[2] for u in rounds})
        self.all_done(nest + [write(0, X, Z)], {u: u[1] for u in rounds})
        self.all_done(nest + [write(0, Y, Z)], {u: u[0] for u in rounds})
        self.all_done(nest + [write(0, X, ZERO)], {u: 4 * u[1] + u[2] for u in rounds})
        self.all_done(nest + [write(0, Z, ZERO)], {u: 3 * u[0] + u[1] for u in rounds})

    def test_large_subscripts(self):
        self.all_done([loops(4), stmt(), write(0, [MOST, MOST, 0, 0], ZERO)], {(x, 0, 0, 0): 0 for x in range(4)})


class Level(unittest.TestCase):
    def wrong(self, n, count, u):
        nest = [loops(*n)] + [stmt()] * count + [write(s, ZERO, ZERO) for s in range(count)]
        with self.subTest(n=n, count=count, u=u):
            # A call behind it tells whether the list was read whole.
            self.assertEqual(ask(*nest, level(u), at(0))[-2:], [WRONG, (1 if count else 0, [])])

    def test_counts(self):
        for count in (0, 1, 2, 3, 5, 6, 7, 8, 9, 10):
            self.wrong([2, 2, 2], 2, [0] * count)
            self.wrong([2, 2, 2], 2, [1] * count)

    def test_counters_too_large(self):
        for u in ([2, 0, 0, 0], [0, 3, 0, 0], [0, 0, 4, 0], [3, 1, 1, 0], [1, 2, 4, 1], [0, 0, 23, 0], [0, 0, 24, 0]):
            self.wrong([2, 3, 4], 2, u)
        self.wrong([64], 1, [64, 0, 0, 0])

    def test_loops_that_there_are_not(self):
        for u in ([0, 1, 0, 0], [0, 0, 1, 0], [1, 1, 1, 0]):
            self.wrong([2], 1, u)
        for u in ([0, 0, 1, 0], [1, 1, 2, 0]):
            self.wrong([2, 2], 1, u)

    def test_statements_that_there_are_not(self):
        for count in range(4):
            for s in (count, count + 1, 64, HUGE):
                self.wrong([2], count, [0, 0, 0, s])

    def test_huge_numbers(self):
        for k in range(4):
            for number in (2 ** 32, 2 ** 63, 2 ** 64 - 2, HUGE):
                u = [0, 0, 0, 0]
                u[k] = number
                self.wrong([2, 2, 2], 1, u)
        self.wrong([2, 2, 2], 3, [HUGE] * 4)
        self.wrong([2, 2, 2], 3, [HUGE] * 10)

    def test_the_last_instance(self):
        for n, u in (([64], [63, 0, 0, 2]), ([8, 8], [7, 7, 0, 2]), ([4, 4, 4], [3, 3, 3, 2])):
            nest = [loops(*n), stmt(), stmt(), stmt()] + [write(s, ZERO, ZERO) for s in range(3)]
            self.assertEqual(last(*nest, level(u)), (191, []))


class At(unittest.TestCase):
    def test_ends(self):
        nest = [loops(3, 3), stmt(), write(0, X, Y), read(0, [-1, 1, 0, 0], Y), read(0, X, [-1, 0, 1, 0])]
        told = ask(*nest, *[at(l) for l in (0, 1, 2, 3, 4, 5, 6, 2 ** 32, 2 ** 63, 2 ** 64 - 2, HUGE)])[len(nest):]
        self.assertEqual([answer[0] for answer in told], [1, 2, 3, 2, 1, 0, 0, 0, 0, 0, 0])

    def test_all_at_once(self):
        nest = [loops(64), stmt(), stmt(), stmt()]
        self.assertEqual(ask(*nest, at(0), at(1), steps())[-3:], [(192, []), (0, []), (1, [])])

    def test_the_sum_is_how_many_there_are(self):
        for n in ([64], [5, 7], [3, 4, 5]):
            nest = [loops(*n), stmt(), stmt(), write(0, X, Y), read(0, [-1, 1, 0, 0], [1, 0, 1, 0]), write(1, Z, X),
                    read(1, Y, ZERO)]
            count = last(*nest, steps())[0]
            self.assertGreater(count, 1)
            told = ask(*nest, *[at(l) for l in range(count)])[len(nest):]
            self.assertTrue(all(answer[0] > 0 for answer in told))
            rounds = 1
            for length in n:
                rounds *= length
            self.assertEqual(sum(answer[0] for answer in told), 2 * rounds)


if __name__ == "__main__":
    unittest.main()
