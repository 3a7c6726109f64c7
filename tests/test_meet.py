"""meet: which instances touch the same cell, one of them writing."""

import unittest

from lines import HUGE, LEAST, MOST, NO, WRONG, YES, access, ask, last, loops, meet, read, stmt, write

ZERO = [0, 0, 0, 0]
X = [0, 1, 0, 0]
Y = [0, 0, 1, 0]
Z = [0, 0, 0, 1]


class Meeting(unittest.TestCase):
    def meets(self, nest, u, v, answer):
        with self.subTest(u=u, v=v):
            self.assertEqual(ask(*nest, meet(u, v), meet(v, u))[-2:], [answer, answer])

    def test_reading_only(self):
        nest = [loops(2), stmt(), stmt(), read(0, ZERO, ZERO), read(1, ZERO, ZERO)]
        self.meets(nest, [0, 0, 0, 0], [1, 0, 0, 1], NO)
        self.meets(nest, [0, 0, 0, 0], [1, 0, 0, 0], NO)

    def test_one_writes(self):
        for first, second in ((read, write), (write, read), (write, write)):
            nest = [loops(2), stmt(), stmt(), first(0, ZERO, ZERO), second(1, ZERO, ZERO)]
            self.meets(nest, [0, 0, 0, 0], [0, 0, 0, 1], YES)
            self.meets(nest, [1, 0, 0, 0], [0, 0, 0, 1], YES)

    def test_with_itself(self):
        self.meets([loops(2), stmt(), write(0, X, ZERO)], [1, 0, 0, 0], [1, 0, 0, 0], YES)
        self.meets([loops(2), stmt(), read(0, X, ZERO)], [1, 0, 0, 0], [1, 0, 0, 0], NO)
        self.meets([loops(2), stmt(), read(0, X, ZERO), write(0, Y, X)], [1, 0, 0, 0], [1, 0, 0, 0], YES)

    def test_writing_elsewhere(self):
        # Both write, but the cell that both touch is only read.
        nest = [loops(2), stmt(), read(0, ZERO, ZERO), write(0, X, ZERO, array=1)]
        self.meets(nest, [0, 0, 0, 0], [1, 0, 0, 0], NO)

    def test_arrays(self):
        for array in range(8):
            for other in range(8):
                nest = [loops(2), stmt(), stmt(), write(0, X, X, array=array), write(1, X, X, array=other)]
                self.meets(nest, [1, 0, 0, 0], [1, 0, 0, 1], YES if array == other else NO)

    def test_both_subscripts(self):
        for first, second, answer in ((ZERO, ZERO, YES), (X, ZERO, NO), (ZERO, X, NO), (X, X, NO)):
            self.meets([loops(2), stmt(), write(0, first, second)], [0, 0, 0, 0], [1, 0, 0, 0], answer)

    def test_subscripts_are_not_exchanged(self):
        nest = [loops(2), stmt(), stmt(), write(0, [1, 0, 0, 0], [2, 0, 0, 0]), write(1, [2, 0, 0, 0], [1, 0, 0, 0])]
        self.meets(nest, [0, 0, 0, 0], [0, 0, 0, 1], NO)

    def test_any_of_the_accesses(self):
        apart = [write(s, [s, 0, 0, 0], ZERO, array=k) for s in (0, 1) for k in (1, 2)]
        for first in range(3):
            for second in range(3):
                mine = apart[:2]
                theirs = apart[2:]
                mine.insert(first, read(0, [5, 0, 0, 0], ZERO))
                theirs.insert(second, write(1, [5, 0, 0, 0], ZERO))
                self.meets([loops(2), stmt(), stmt()] + mine + theirs, [0, 0, 0, 0], [1, 0, 0, 1], YES)

    def test_one_loop(self):
        nest = [loops(5), stmt(), stmt(), write(0, [1, 2, 0, 0], ZERO), read(1, [7, -1, 0, 0], ZERO)]
        for x in range(5):
            for y in range(5):
                self.meets(nest, [x, 0, 0, 0], [y, 0, 0, 1], YES if 1 + 2 * x == 7 - y else NO)

    def test_two_loops(self):
        nest = [loops(3, 4), stmt(), stmt(), write(0, [0, 1, 1, 9], [0, 0, 1, 0]), read(1, [3, -1, 0, 9], [1, 0, 1, 0])]
        for x in range(3):
            for y in range(4):
                for p in range(3):
                    for q in range(4):
                        answer = YES if (x + y, y) == (3 - p, 1 + q) else NO
                        self.meets(nest, [x, y, 0, 0], [p, q, 0, 1], answer)

    def test_three_loops(self):
        nest = [loops(2, 3, 4), stmt(), write(0, [0, 6, 3, 1], ZERO)]
        rounds = [[x, y, z] for x in range(2) for y in range(3) for z in range(4)]
        for u in rounds:
            for v in rounds:
                same = 6 * u[0] + 3 * u[1] + u[2] == 6 * v[0] + 3 * v[1] + v[2]
                self.meets(nest, u + [0], v + [0], YES if same else NO)

    def test_below_zero(self):
        nest = [loops(3), stmt(), stmt(), write(0, [-2, -3, 0, 0], ZERO), read(1, [-5, 0, 0, 0], ZERO)]
        self.meets(nest, [1, 0, 0, 0], [0, 0, 0, 1], YES)
        self.meets(nest, [0, 0, 0, 0], [0, 0, 0, 1], NO)
        opposite = [loops(3), stmt(), stmt(), write(0, [5, 0, 0, 0], ZERO), read(1, [-5, 0, 0, 0], ZERO)]
        self.meets(opposite, [0, 0, 0, 0], [0, 0, 0, 1], NO)

    def test_constants_and_multiples_have_their_places(self):
        for k in range(4):
            row = [0, 0, 0, 0]
            row[k] = 1
            value = [1, 1, 2, 3][k]
            nest = [loops(2, 3, 4), stmt(), stmt(), write(0, row, ZERO), read(1, [value, 0, 0, 0], ZERO)]
            self.meets(nest, [1, 2, 3, 0], [0, 0, 0, 1], YES)


class Large(unittest.TestCase):
    def test_ends_do_not_come_round(self):
        # In 64 bits MOST + 1 is LEAST, and LEAST twice is 0.
        for row, other in (([MOST, 1, 0, 0], [LEAST, 0, 0, 0]), ([LEAST, LEAST, 0, 0], [0, 0, 0, 0]),
                           ([LEAST, -1, 0, 0], [MOST, 0, 0, 0]), ([MOST, MOST, 0, 0], [-2, 0, 0, 0])):
            for rows, others in (((row, ZERO), (other, ZERO)), ((ZERO, row), (ZERO, other))):
                told = last(loops(2), stmt(), stmt(), write(0, *rows), write(1, *others),
                            meet([1, 0, 0, 0], [0, 0, 0, 1]))
                self.assertEqual(told, NO)

    def test_near_ones_are_told_apart(self):
        # Such neighbours are one number where numbers are kept with 53 bits.
        nest = [loops(2), stmt(), stmt(), write(0, [MOST, 0, 0, 0], ZERO), write(1, [MOST - 1, 1, 0, 0], ZERO)]
        self.assertEqual(last(*nest, meet([0, 0, 0, 0], [0, 0, 0, 1])), NO)
        self.assertEqual(last(*nest, meet([0, 0, 0, 0], [1, 0, 0, 1])), YES)

    def test_as_large_as_they_come(self):
        all_most = [MOST] * 4
        nest = [loops(4, 4, 4), stmt(), write(0, all_most, [LEAST] * 4)]
        self.assertEqual(last(*nest, meet([3, 3, 3, 0], [3, 3, 3, 0])), YES)
        self.assertEqual(last(*nest, meet([3, 2, 1, 0], [1, 2, 3, 0])), YES)
        self.assertEqual(last(*nest, meet([3, 3, 3, 0], [3, 3, 2, 0])), NO)

    def test_the_farthest_counter(self):
        nest = [loops(64), stmt(), stmt(), write(0, [0, MOST, 0, 0], ZERO), write(1, [-63, 0, 0, 0], ZERO)]
        self.assertEqual(last(*nest, meet([63, 0, 0, 0], [0, 0, 0, 1])), NO)


class NoInstance(unittest.TestCase):
    def wrong(self, nest, good, bad):
        for u, v in ((good, bad), (bad, good), (bad, bad)):
            with self.subTest(u=u, v=v):
                # A call behind it tells whether both lists were read whole.
                self.assertEqual(ask(*nest, meet(u, v), meet(good, good))[-2:], [WRONG, YES])

    def nest(self, *n):
        return [loops(*n), stmt(), stmt(), write(0, ZERO, ZERO), write(1, ZERO, ZERO)]

    def test_counts(self):
        for count in (0, 1, 2, 3, 5, 6, 7, 8, 9, 10):
            self.wrong(self.nest(2, 2, 2), [0, 0, 0, 0], [0] * count)
            self.wrong(self.nest(2, 2, 2), [1, 1, 1, 1], [1] * count)

    def test_counters_too_large(self):
        for u in ([2, 0, 0, 0], [0, 3, 0, 0], [0, 0, 4, 0], [3, 1, 1, 0], [0, 0, 100, 0], [1, 3, 0, 1]):
            self.wrong(self.nest(2, 3, 4), [1, 2, 3, 1], u)

    def test_loops_that_there_are_not(self):
        for u in ([0, 1, 0, 0], [0, 0, 1, 0], [0, 1, 1, 0], [0, 2, 0, 0]):
            self.wrong(self.nest(2), [1, 0, 0, 0], u)
        for u in ([0, 0, 1, 0], [1, 1, 2, 0]):
            self.wrong(self.nest(2, 2), [1, 1, 0, 0], u)

    def test_statements_that_there_are_not(self):
        for s in (2, 3, HUGE):
            self.wrong(self.nest(2), [0, 0, 0, 1], [0, 0, 0, s])
        self.assertEqual(last(loops(2), meet([0] * 4, [0] * 4)), WRONG)

    def test_huge_numbers(self):
        for k in range(4):
            u = [0, 0, 0, 0]
            u[k] = HUGE
            self.wrong(self.nest(2, 2, 2), [0, 0, 0, 0], u)
        self.wrong(self.nest(2, 2, 2), [0, 0, 0, 0], [HUGE] * 4)
        self.wrong(self.nest(2, 2, 2), [0, 0, 0, 0], [HUGE] * 10)


class Accumulating(unittest.TestCase):
    def test_a_later_access_counts(self):
        told = ask(loops(2), stmt(), stmt(), access(0, 0, 0, [0] * 8), meet([0, 0, 0, 0], [0, 0, 0, 1]),
                   access(1, 0, 1, [0] * 8), meet([0, 0, 0, 0], [0, 0, 0, 1]))
        self.assertEqual([told[4], told[6]], [NO, YES])


if __name__ == "__main__":
    unittest.main()
