"""try: whether another order is allowed, and if not the first two that it must not turn about."""

import unittest

from lines import DONE, HUGE, LEAST, MOST, WRONG, ask, attempt, last, loops, read, stmt, write
from words import own_order

ZERO = [0, 0, 0, 0]
X = [0, 1, 0, 0]
Y = [0, 0, 1, 0]
Z = [0, 0, 0, 1]
BACK_X = [0, -1, 0, 0]
BACK_Y = [0, 0, -1, 0]
ALLOWED = (0, [])


def barred(u, v):
    return (1, u + v)


def constant(number):
    return [number, 0, 0, 0]


class Trying(unittest.TestCase):
    def tries(self, nest, k, rows, wanted):
        """Rows one behind another."""
        with self.subTest(k=k, rows=rows):
            numbers = [number for row in rows for number in row]
            self.assertEqual(last(*nest, attempt(k, numbers)), wanted)


class Refused(unittest.TestCase):
    def test_k(self):
        for count in range(4):
            nest = [loops(2)] + [stmt()] * count
            for k in (0, 5, 6, 20, 2 ** 32, 2 ** 32 + 1, 2 ** 62, 2 ** 63, HUGE):
                for numbers in {0, 4, 4 * count, 20 * count, 4 * k * count, 80}:
                    if numbers <= 80:
                        with self.subTest(k=k, count=count, numbers=numbers):
                            # A call behind it tells whether it was read whole.
                            self.assertEqual(ask(*nest, attempt(k, [1] * numbers), loops(2))[-2:], [WRONG, DONE])

    def test_counts(self):
        for count in range(4):
            nest = [loops(2)] + [stmt()] * count
            for k in (1, 2, 3, 4):
                for numbers in range(81):
                    with self.subTest(k=k, count=count, numbers=numbers):
                        told = ask(*nest, attempt(k, [1] * numbers), loops(2))
                        self.assertEqual(told[-2:], [ALLOWED if numbers == 4 * k * count else WRONG, DONE])

    def test_wrong_count_where_the_order_is_barred(self):
        nest = [loops(2), stmt(), stmt(), write(0, ZERO, ZERO), write(1, ZERO, ZERO)]
        for k in (1, 2, 3, 4):
            for numbers in (0, 1, 8 * k - 4, 8 * k - 1, 8 * k + 1, 8 * k + 4, 12 * k, 80):
                self.assertEqual(last(*nest, attempt(k, [0] * numbers)), WRONG)
            self.assertEqual(last(*nest, attempt(k, [0] * (8 * k))), barred([0, 0, 0, 0], [0, 0, 0, 1]))

    def test_rows_for_the_statements_that_there_are(self):
        told = ask(loops(2), attempt(1, ZERO), stmt(), attempt(1, []), attempt(1, ZERO), stmt(), attempt(1, ZERO),
                   attempt(1, ZERO + ZERO))
        self.assertEqual([told[k] for k in (1, 3, 4, 6, 7)], [WRONG, WRONG, ALLOWED, WRONG, ALLOWED])


class Allowed(Trying):
    def test_without_statements(self):
        for n in ([1], [64], [4, 4, 4]):
            for k in (1, 2, 3, 4):
                self.tries([loops(*n)], k, [], ALLOWED)

    def test_without_accesses(self):
        self.tries([loops(4), stmt(), stmt()], 1, [ZERO, BACK_X], ALLOWED)

    def test_the_nests_own_order(self):
        for n in ([1], [5], [64], [3, 4], [8, 8], [2, 3, 4], [4, 4, 4]):
            for count in (1, 2, 3):
                nest = [loops(*n)] + [stmt()] * count + [write(s, ZERO, ZERO) for s in range(count)]
                self.assertEqual(last(*nest, attempt(4, own_order(count))), ALLOWED)

    def test_one_loop(self):
        nest = [loops(5), stmt(), write(0, ZERO, ZERO)]
        first = barred([0, 0, 0, 0], [1, 0, 0, 0])
        self.tries(nest, 1, [X], ALLOWED)
        self.tries(nest, 1, [[7, 3, 0, 0]], ALLOWED)
        self.tries(nest, 1, [[-7, 1, 5, -5]], ALLOWED)
        self.tries(nest, 1, [ZERO], first)
        self.tries(nest, 1, [BACK_X], first)
        self.tries(nest, 1, [[1, 0, 1, 1]], first)

    def test_turned_about(self):
        # What lies beside in both directions: the loops can be exchanged, and each run backwards it can't.
        nest = [loops(3, 3), stmt(), write(0, X, Y), read(0, [-1, 1, 0, 0], Y), read(0, X, [-1, 0, 1, 0])]
        self.tries(nest, 2, [X, Y], ALLOWED)
        self.tries(nest, 2, [Y, X], ALLOWED)
        self.tries(nest, 2, [BACK_X, Y], barred([0, 0, 0, 0], [1, 0, 0, 0]))
        self.tries(nest, 2, [X, BACK_Y], barred([0, 0, 0, 0], [0, 1, 0, 0]))
        # A wave: all of one x + y are done at once.
        self.tries(nest, 1, [[0, 1, 1, 0]], ALLOWED)
        self.tries(nest, 1, [[0, 1, -1, 0]], barred([0, 0, 0, 0], [0, 1, 0, 0]))

    def test_turned_about_only_if_skewed(self):
        # Read from above and to the right: exchanged it is barred, skewed first it isn't.
        nest = [loops(3, 3), stmt(), write(0, X, Y), read(0, [-1, 1, 0, 0], [1, 0, 1, 0])]
        self.tries(nest, 2, [X, Y], ALLOWED)
        self.tries(nest, 2, [Y, X], barred([0, 1, 0, 0], [1, 0, 0, 0]))
        self.tries(nest, 2, [[0, 1, 1, 0], X], ALLOWED)
        self.tries(nest, 1, [[0, 1, 1, 0]], barred([0, 1, 0, 0], [1, 0, 0, 0]))
        self.tries(nest, 1, [[0, 2, 1, 0]], ALLOWED)

    def test_backwards_where_nothing_is_carried(self):
        nest = [loops(4, 4), stmt(), write(0, X, Y)]
        for rows in ([BACK_X, Y], [X, BACK_Y], [BACK_Y, BACK_X], [ZERO, ZERO]):
            self.tries(nest, 2, rows, ALLOWED)
        self.tries([loops(4, 4), stmt(), write(0, X, ZERO)], 2, [Y, BACK_X], ALLOWED)
        self.tries([loops(4, 4), stmt(), write(0, X, ZERO)], 2, [BACK_X, Y], ALLOWED)
        self.tries([loops(4, 4), stmt(), write(0, X, ZERO)], 2, [BACK_X, BACK_Y], barred([0, 0, 0, 0], [0, 1, 0, 0]))

    def test_three_loops(self):
        nest = [loops(2, 2, 2), stmt(), write(0, X, Y), read(0, X, Y)]
        for order in ([X, Y, Z], [Z, Y, X], [Z, X, Y], [Y, Z, X], [BACK_X, BACK_Y, Z]):
            self.tries(nest, 3, order, ALLOWED)
        self.tries(nest, 3, [X, Y, [0, 0, 0, -1]], barred([0, 0, 0, 0], [0, 0, 1, 0]))
        self.tries(nest, 2, [X, Y], barred([0, 0, 0, 0], [0, 0, 1, 0]))
        self.tries(nest, 1, [Z], ALLOWED)


class SameTime(Trying):
    def test_of_two_that_meet(self):
        nest = [loops(2), stmt(), stmt(), write(0, X, ZERO), read(1, X, ZERO)]
        self.tries(nest, 1, [X, X], barred([0, 0, 0, 0], [0, 0, 0, 1]))
        self.tries(nest, 2, [X, ZERO, X, ZERO], barred([0, 0, 0, 0], [0, 0, 0, 1]))
        self.tries(nest, 2, [X, ZERO, X, constant(1)], ALLOWED)

    def test_of_two_that_do_not_meet(self):
        self.tries([loops(8), stmt(), write(0, X, ZERO)], 1, [ZERO], ALLOWED)
        self.tries([loops(8), stmt(), read(0, ZERO, ZERO)], 4, [ZERO] * 4, ALLOWED)
        nest = [loops(8), stmt(), stmt(), write(0, X, ZERO), write(1, X, ZERO, array=1)]
        self.tries(nest, 1, [ZERO, ZERO], ALLOWED)
        # Statement 0 wholly before 1: the loop is parted.
        nest = [loops(8), stmt(), stmt(), write(0, X, ZERO), read(1, [-1, 1, 0, 0], ZERO)]
        self.tries(nest, 1, [ZERO, constant(1)], ALLOWED)
        self.tries(nest, 1, [ZERO, ZERO], barred([0, 0, 0, 0], [1, 0, 0, 1]))

    def test_an_instance_is_not_two(self):
        # It meets itself, and has its own time: that bars nothing.
        self.tries([loops(1), stmt(), write(0, ZERO, ZERO)], 1, [ZERO], ALLOWED)


class Places(Trying):
    """Times that differ first in a number further back."""

    def test_the_first_that_differs_decides(self):
        nest = [loops(2), stmt(), write(0, ZERO, ZERO)]
        first = barred([0, 0, 0, 0], [1, 0, 0, 0])
        for k in (1, 2, 3, 4):
            for place in range(k):
                alike = [constant(5 - j) for j in range(place)]
                behind = k - place - 1
                self.tries(nest, k, alike + [X] + [BACK_X] * behind, ALLOWED)
                self.tries(nest, k, alike + [X] + [ZERO] * behind, ALLOWED)
                self.tries(nest, k, alike + [BACK_X] + [X] * behind, first)
                self.tries(nest, k, alike + [BACK_X] + [ZERO] * behind, first)
            self.tries(nest, k, [constant(j) for j in range(k)], first)

    def test_not_by_their_sum_or_greatest(self):
        nest = [loops(2), stmt(), write(0, ZERO, ZERO)]
        self.tries(nest, 2, [X, [100, -100, 0, 0]], ALLOWED)
        self.tries(nest, 2, [[1, -1, 0, 0], [0, 100, 0, 0]], barred([0, 0, 0, 0], [1, 0, 0, 0]))

    def test_numbers_below_zero(self):
        nest = [loops(3), stmt(), write(0, ZERO, ZERO)]
        self.tries(nest, 1, [[-2, 1, 0, 0]], ALLOWED)
        self.tries(nest, 1, [[-1, -1, 0, 0]], barred([0, 0, 0, 0], [1, 0, 0, 0]))

    def test_each_number_of_a_row(self):
        for n, row, counters in (([2], X, [1, 0, 0]), ([1, 2], Y, [0, 1, 0]), ([1, 1, 2], Z, [0, 0, 1])):
            nest = [loops(*n), stmt(), write(0, ZERO, ZERO)]
            self.tries(nest, 1, [row], ALLOWED)
            for other in (ZERO, constant(3), X, Y, Z):
                if other != row:
                    self.tries(nest, 1, [other], barred([0, 0, 0, 0], counters + [0]))


class Statements(Trying):
    def test_own_rows(self):
        # Each of the three writes the cell: in each round one after another, by constants.
        nest = [loops(2), stmt(), stmt(), stmt()] + [write(s, X, ZERO) for s in range(3)]
        for a, b, c, wanted in ((0, 1, 2, ALLOWED), (0, 2, 1, barred([0, 0, 0, 1], [0, 0, 0, 2])),
                                (1, 0, 2, barred([0, 0, 0, 0], [0, 0, 0, 1])),
                                (2, 1, 0, barred([0, 0, 0, 0], [0, 0, 0, 1])),
                                (1, 2, 0, barred([0, 0, 0, 0], [0, 0, 0, 2])),
                                (-9, 0, 9, ALLOWED)):
            self.tries(nest, 1, [constant(a), constant(b), constant(c)], wanted)
            self.tries(nest, 2, [X, constant(a), X, constant(b), X, constant(c)], wanted)

    def test_rows_lie_statement_by_statement(self):
        nest = [loops(2), stmt(), stmt(), write(0, ZERO, ZERO), write(1, ZERO, ZERO)]
        self.tries(nest, 2, [X, ZERO, X, constant(1)], ALLOWED)
        # Taken row by row these would be X, 0 and X, 1; as they are all of statement 1 has one time.
        self.tries(nest, 2, [X, X, ZERO, constant(1)], barred([0, 0, 0, 1], [1, 0, 0, 1]))

    def test_different_rows(self):
        # Statement 1 reads what 0 writes two rounds later: shifted by two they can be put together in turn.
        nest = [loops(6), stmt(), stmt(), write(0, X, ZERO), read(1, [2, 1, 0, 0], ZERO)]
        self.tries(nest, 1, [X, X], ALLOWED)
        self.tries(nest, 1, [X, [1, 1, 0, 0]], ALLOWED)
        self.tries(nest, 1, [X, [2, 1, 0, 0]], barred([0, 0, 0, 1], [2, 0, 0, 0]))
        self.tries(nest, 1, [[2, 1, 0, 0], X], ALLOWED)
        self.tries(nest, 1, [X, BACK_X], ALLOWED)
        self.tries(nest, 1, [BACK_X, ZERO], barred([0, 0, 0, 1], [2, 0, 0, 0]))
        # Round r is read at r - 6 and written, two rounds on, at -r - 2: from round 2 on that's not later.
        self.tries(nest, 1, [BACK_X, [-6, 1, 0, 0]], barred([2, 0, 0, 1], [4, 0, 0, 0]))


class TheFirst(Trying):
    def test_the_first_of_those_that_are_barred(self):
        # Rounds of an even and an odd y are turned about: those before them stand as they are.
        nest = [loops(2, 2), stmt(), write(0, ZERO, ZERO)]
        self.tries(nest, 1, [[0, 2, 1, 0]], ALLOWED)
        self.tries(nest, 1, [[0, 1, 2, 0]], barred([0, 1, 0, 0], [1, 0, 0, 0]))
        self.tries(nest, 1, [[0, 1, 1, 0]], barred([0, 1, 0, 0], [1, 0, 0, 0]))
        self.tries(nest, 2, [Y, X], barred([0, 1, 0, 0], [1, 0, 0, 0]))
        self.tries(nest, 2, [X, BACK_Y], barred([0, 0, 0, 0], [0, 1, 0, 0]))
        self.tries(nest, 2, [BACK_X, Y], barred([0, 0, 0, 0], [1, 0, 0, 0]))

    def test_the_later_counts_next(self):
        nest = [loops(6), stmt(), stmt(), write(0, X, ZERO), read(1, [-4, 1, 0, 0], ZERO), read(1, [-2, 1, 0, 0], ZERO)]
        self.tries(nest, 1, [BACK_X, BACK_X], barred([0, 0, 0, 0], [2, 0, 0, 1]))
        # Two later it's allowed, four later not.
        self.tries(nest, 1, [ZERO, [3, -1, 0, 0]], barred([0, 0, 0, 0], [4, 0, 0, 1]))
        self.tries(nest, 1, [ZERO, [4, -1, 0, 0]], barred([0, 0, 0, 0], [4, 0, 0, 1]))
        self.tries(nest, 1, [ZERO, [5, -1, 0, 0]], barred([1, 0, 0, 0], [5, 0, 0, 1]))
        self.tries(nest, 1, [ZERO, [6, -1, 0, 0]], ALLOWED)

    def test_the_earlier_counts_first(self):
        nest = [loops(6), stmt(), stmt(), write(0, X, ZERO), read(1, [5, -1, 0, 0], ZERO)]
        self.tries(nest, 1, [ZERO, ZERO], barred([0, 0, 0, 0], [5, 0, 0, 1]))
        self.tries(nest, 1, [ZERO, [1, 0, 0, 0]], barred([0, 0, 0, 1], [5, 0, 0, 0]))
        self.tries(nest, 1, [X, X], ALLOWED)

    def test_only_what_meets(self):
        # All is turned about, but only 4 and 5 meet.
        nest = [loops(6), stmt(), stmt(), write(0, X, ZERO), read(1, [9, -1, 0, 0], ZERO)]
        self.tries(nest, 1, [BACK_X, BACK_X], barred([4, 0, 0, 0], [5, 0, 0, 1]))


class Large(Trying):
    def test_no_wrap(self):
        nest = [loops(64), stmt(), write(0, ZERO, ZERO)]
        first = barred([0, 0, 0, 0], [1, 0, 0, 0])
        self.tries(nest, 1, [[MOST, 1, 0, 0]], ALLOWED)
        self.tries(nest, 1, [[MOST, MOST, 0, 0]], ALLOWED)
        self.tries(nest, 1, [[LEAST, MOST, 0, 0]], ALLOWED)
        self.tries(nest, 1, [[LEAST, -1, 0, 0]], first)
        self.tries(nest, 1, [[LEAST, LEAST, 0, 0]], first)
        self.tries(nest, 1, [[MOST, LEAST, 0, 0]], first)

    def test_as_large_as_they_come(self):
        nest = [loops(4, 4, 4), stmt(), write(0, ZERO, ZERO)]
        self.tries(nest, 1, [[MOST] * 4], barred([0, 0, 1, 0], [0, 1, 0, 0]))
        self.tries(nest, 4, [[MOST, MOST, 0, 0], [MOST, 0, MOST, 0], [LEAST, 0, 0, MOST], ZERO], ALLOWED)
        self.tries(nest, 4, [[MOST, MOST, 0, 0], [MOST, 0, MOST, 0], [LEAST, 0, 0, LEAST], ZERO],
                   barred([0, 0, 0, 0], [0, 0, 1, 0]))
        self.tries(nest, 4, [[LEAST] * 4] * 4, barred([0, 0, 0, 0], [0, 0, 1, 0]))

    def test_near_ones_are_told_apart(self):
        # Such neighbours are one number where numbers are kept with 53 bits.
        nest = [loops(1), stmt(), stmt(), write(0, ZERO, ZERO), write(1, ZERO, ZERO)]
        first = barred([0, 0, 0, 0], [0, 0, 0, 1])
        self.tries(nest, 1, [constant(MOST - 1), constant(MOST)], ALLOWED)
        self.tries(nest, 1, [constant(MOST), constant(MOST - 1)], first)
        self.tries(nest, 1, [constant(MOST), constant(MOST)], first)
        self.tries(nest, 1, [constant(LEAST), constant(LEAST + 1)], ALLOWED)
        self.tries(nest, 1, [constant(LEAST), constant(MOST)], ALLOWED)
        self.tries(nest, 1, [constant(MOST), constant(LEAST)], first)

    def test_the_sum_is_whole(self):
        # Round 1 has MOST + MOST + MOST, beside a constant that 64 bits would take it for.
        nest = [loops(1, 1, 2), stmt(), stmt(), write(0, ZERO, ZERO), write(1, ZERO, ZERO)]
        self.tries(nest, 1, [[MOST, 0, 0, MOST], [MOST, 0, 0, MOST]], barred([0, 0, 0, 0], [0, 0, 0, 1]))
        self.tries(nest, 1, [[MOST - 1, 0, 0, 2], [MOST, 0, 0, 2]], ALLOWED)


if __name__ == "__main__":
    unittest.main()
