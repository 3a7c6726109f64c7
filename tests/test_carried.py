"""carried: the first two that meet with the same counters outside a loop and different ones of it."""

import unittest

from lines import DONE, HUGE, LEAST, MOST, NO, WRONG, ask, carried, last, loops, read, stmt, write

ZERO = [0, 0, 0, 0]
X = [0, 1, 0, 0]
Y = [0, 0, 1, 0]
Z = [0, 0, 0, 1]


def pair(u, v):
    return (1, u + v)


class Carried(unittest.TestCase):
    def carries(self, nest, *wanted):
        """What is answered for the loops 0, 1, .. of the nest."""
        told = ask(*nest, *[carried(l) for l in range(len(wanted))])
        self.assertEqual(told[len(nest):], list(wanted))

    def test_no_such_loop(self):
        for n in ([2], [2, 2], [2, 2, 2], [64], [1, 64], [1, 1, 64]):
            nest = [loops(*n), stmt(), write(0, ZERO, ZERO)]
            for l in range(len(n)):
                self.assertNotEqual(last(*nest, carried(l)), WRONG)
            for l in (len(n), len(n) + 1, 3, 4, 64, 2 ** 32, 2 ** 63, HUGE):
                with self.subTest(n=n, l=l):
                    # A call behind it tells whether it was read whole.
                    self.assertEqual(ask(*nest, carried(l), stmt())[-2:], [WRONG, (1, [])])

    def test_no_such_loop_without_statements(self):
        told = ask(loops(3), carried(0), carried(1), carried(2), carried(HUGE))
        self.assertEqual(told, [DONE, NO, WRONG, WRONG, WRONG])

    def test_one_loop(self):
        self.carries([loops(3), stmt(), write(0, ZERO, ZERO)], pair([0, 0, 0, 0], [1, 0, 0, 0]), WRONG)
        self.carries([loops(3), stmt(), write(0, X, ZERO)], NO, WRONG)

    def test_two_loops(self):
        self.carries([loops(2, 3), stmt(), write(0, ZERO, ZERO)],
                     pair([0, 0, 0, 0], [1, 0, 0, 0]), pair([0, 0, 0, 0], [0, 1, 0, 0]), WRONG)
        self.carries([loops(2, 3), stmt(), write(0, X, ZERO)], NO, pair([0, 0, 0, 0], [0, 1, 0, 0]), WRONG)
        self.carries([loops(2, 3), stmt(), write(0, Y, ZERO)], pair([0, 0, 0, 0], [1, 0, 0, 0]), NO, WRONG)

    def test_three_loops(self):
        nest = [loops(2, 2, 2), stmt()]
        outer = pair([0, 0, 0, 0], [1, 0, 0, 0])
        middle = pair([0, 0, 0, 0], [0, 1, 0, 0])
        inner = pair([0, 0, 0, 0], [0, 0, 1, 0])
        self.carries(nest + [write(0, ZERO, ZERO)], outer, middle, inner, WRONG)
        self.carries(nest + [write(0, Y, Z)], outer, NO, NO, WRONG)
        self.carries(nest + [write(0, X, Z)], NO, middle, NO, WRONG)
        self.carries(nest + [write(0, X, Y)], NO, NO, inner, WRONG)
        self.carries(nest + [write(0, [0, 1, 2, 4], ZERO)], NO, NO, NO, WRONG)

    def test_whatever_the_loops_within(self):
        # x + y is alike at 0, 1 and 1, 0: the outer loop carries it though the inner counters differ.
        self.carries([loops(2, 2), stmt(), write(0, [0, 1, 1, 0], ZERO)], pair([0, 1, 0, 0], [1, 0, 0, 0]), NO)
        # x - y: the inner counter goes up with the outer one.
        self.carries([loops(3, 3), stmt(), write(0, [0, 1, -1, 0], ZERO)], pair([0, 0, 0, 0], [1, 1, 0, 0]), NO)
        # y + z, with x the same: only the middle loop can carry it where x is in the cell too.
        self.carries([loops(2, 2, 2), stmt(), write(0, [0, 0, 1, 1], X)], NO, pair([0, 0, 1, 0], [0, 1, 0, 0]), NO)
        self.carries([loops(2, 1, 3), stmt(), write(0, [0, 2, 0, 1], ZERO)], pair([0, 0, 2, 0], [1, 0, 0, 0]), NO, NO)

    def test_the_earlier_may_have_the_greater_inner_counters(self):
        nest = [loops(2, 2, 3), stmt(), stmt(), write(0, [0, 3, 0, 1], ZERO), read(1, [5, -3, 0, -1], ZERO)]
        self.carries(nest, pair([0, 0, 0, 0], [1, 0, 2, 1]), pair([0, 0, 0, 0], [0, 1, 0, 0]), NO)

    def test_different_outside_is_none(self):
        # All that meets differs in loop 0; loops 1 and 2 differ there too, but carry nothing.
        nest = [loops(2, 2, 2), stmt(), stmt(), write(0, [0, 4, 2, 1], ZERO), read(1, [7, -4, -2, -1], ZERO)]
        self.carries(nest, pair([0, 0, 0, 0], [1, 1, 1, 1]), NO, NO)
        # The same one loop further in: what meets has one x, and differs in y and z.
        nest = [loops(2, 2, 2), stmt(), stmt(), write(0, [0, 0, 2, 1], X), read(1, [3, 0, -2, -1], X)]
        self.carries(nest, NO, pair([0, 0, 0, 0], [0, 1, 1, 1]), NO)

    def test_the_same_round_is_none(self):
        nest = [loops(2, 2, 2), stmt(), stmt(), stmt()]
        nest += [write(s, [0, 4, 2, 1], ZERO) for s in range(3)]
        self.carries(nest, NO, NO, NO)
        self.carries([loops(1), stmt(), stmt(), write(0, ZERO, ZERO), write(1, ZERO, ZERO)], NO)

    def test_with_itself_is_none(self):
        self.carries([loops(1, 1, 1), stmt(), write(0, ZERO, ZERO)], NO, NO, NO)

    def test_any_statements(self):
        for s in range(3):
            for t in range(3):
                nest = [loops(2), stmt(), stmt(), stmt(), write(s, X, ZERO), read(t, [1, 0, 0, 0], ZERO)]
                # The round 0 of t reads what the round 1 of s writes.
                self.carries(nest, pair([0, 0, 0, t], [1, 0, 0, s]))

    def test_reading_only_is_none(self):
        self.carries([loops(4, 4), stmt(), stmt(), read(0, ZERO, ZERO), read(1, ZERO, ZERO)], NO, NO)

    def test_the_first_by_the_earlier(self):
        # x meets 5 - x: the pair that lies nearest together is (2, 3), the first is (0, 5).
        nest = [loops(6), stmt(), stmt(), write(0, X, ZERO), read(1, [5, -1, 0, 0], ZERO)]
        self.carries(nest, pair([0, 0, 0, 0], [5, 0, 0, 1]))
        # The statement counts last: round 0 of statement 1 goes before round 1 of statement 0.
        nest = [loops(3), stmt(), stmt(), write(0, X, ZERO), read(0, [3, -1, 0, 0], ZERO)]
        self.carries(nest, pair([1, 0, 0, 0], [2, 0, 0, 0]))
        nest += [write(1, X, ZERO, array=1), read(1, [2, 0, 0, 0], ZERO, array=1)]
        self.carries(nest, pair([0, 0, 0, 1], [2, 0, 0, 1]))

    def test_then_by_the_later(self):
        nest = [loops(6), stmt(), stmt(), write(0, X, ZERO), read(1, [-4, 1, 0, 0], ZERO), read(1, [-2, 1, 0, 0], ZERO)]
        self.carries(nest, pair([0, 0, 0, 0], [2, 0, 0, 1]))
        nest = [loops(3), stmt(), stmt(), stmt()] + [write(s, ZERO, ZERO) for s in (0, 1, 2)]
        self.carries(nest, pair([0, 0, 0, 0], [1, 0, 0, 0]))
        # The later round is one; of its statements the lesser one is the first.
        nest = [loops(2), stmt(), stmt(), stmt(), write(0, X, ZERO), read(1, ZERO, ZERO), read(2, ZERO, ZERO)]
        self.carries(nest, pair([0, 0, 0, 0], [1, 0, 0, 1]))

    def test_the_first_of_the_loop_not_of_all(self):
        # Pairs of the inner loop come before those of the outer one, and the first rounds carry nothing.
        nest = [loops(2, 4), stmt(), stmt(), write(0, Y, X), read(1, [3, 0, 0, 0], [1, 0, 0, 0])]
        self.carries(nest, pair([0, 0, 0, 1], [1, 3, 0, 0]), pair([1, 0, 0, 1], [1, 3, 0, 0]))

    def test_without_statements(self):
        self.carries([loops(4, 4, 4)], NO, NO, NO, WRONG)

    def test_without_accesses(self):
        self.carries([loops(2, 2, 2), stmt(), stmt(), stmt()], NO, NO, NO, WRONG)
        self.carries([loops(2), stmt(), stmt(), write(0, X, ZERO)], NO)

    def test_no_wrap(self):
        nest = [loops(2), stmt(), stmt(), write(0, [MOST, 1, 0, 0], ZERO), read(1, [LEAST, 0, 0, 0], ZERO)]
        self.carries(nest, NO)
        self.carries([loops(3), stmt(), write(0, [0, LEAST, 0, 0], ZERO)], NO)

    def test_the_last_rounds(self):
        nest = [loops(64), stmt(), stmt(), write(0, X, ZERO), read(1, [125, -1, 0, 0], ZERO)]
        self.carries(nest, pair([62, 0, 0, 0], [63, 0, 0, 1]))


if __name__ == "__main__":
    unittest.main()
