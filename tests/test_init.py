"""init: which nests there are."""

import unittest

from lines import DONE, HUGE, WRONG, ask, init, last, meet, stmt


class Taken(unittest.TestCase):
    def test_one_two_three_loops(self):
        for n in ([1], [2], [64], [1, 1], [8, 8], [64, 1], [1, 64], [1, 1, 1], [4, 4, 4], [2, 4, 8], [1, 64, 1],
                  [3, 3, 7]):
            with self.subTest(n=n):
                self.assertEqual(last(init(len(n), n)), DONE)

    def test_each_loop_goes_round_as_told(self):
        n = [2, 3, 4]
        ends = [[1, 0, 0, 0], [0, 2, 0, 0], [0, 0, 3, 0], [1, 2, 3, 0]]
        beyond = [[2, 0, 0, 0], [0, 3, 0, 0], [0, 0, 4, 0]]
        for u in ends:
            self.assertEqual(last(init(3, n), stmt(), meet(u, u)), (0, []))
        for u in beyond:
            self.assertEqual(last(init(3, n), stmt(), meet(u, u)), WRONG)


class Refused(unittest.TestCase):
    def refused(self, d, n):
        with self.subTest(d=d, n=n):
            # A call behind it tells whether all of n was read, and that there's no nest.
            self.assertEqual(ask(init(d, n), stmt()), [WRONG, (-8, [])])

    def test_d_out_of_bounds(self):
        for d in (0, 4, 5, 10, HUGE):
            for count in range(11):
                self.refused(d, [1] * count)

    def test_d_other_than_the_count(self):
        for d in (1, 2, 3):
            for count in range(11):
                if count != d:
                    self.refused(d, [1] * count)
                    self.refused(d, [2] * count)

    def test_a_zero(self):
        for n in ([0], [0, 1], [1, 0], [0, 0], [0, 1, 1], [1, 0, 1], [1, 1, 0], [64, 64, 0], [0, HUGE, 1]):
            self.refused(len(n), n)

    def test_product(self):
        for n in ([65], [5, 13], [13, 5], [65, 1], [1, 65], [1, 5, 13], [5, 13, 1], [5, 1, 13], [4, 4, 5], [64, 2],
                  [64, 64, 64]):
            self.refused(len(n), n)

    def test_huge_counts(self):
        # Such products come round to small numbers where numbers have 64 bits.
        for n in ([HUGE], [HUGE, 1], [1, HUGE], [HUGE, HUGE], [HUGE, HUGE, 1], [HUGE, HUGE, HUGE],
                  [4294967296, 4294967296], [9223372036854775809, 2], [2, 9223372036854775808]):
            self.refused(len(n), n)
        self.refused(1, [HUGE] * 10)

    def test_numbers_that_look_like_calls(self):
        self.assertEqual(ask(init(3, [0, 1, 1, 1, 1, 1, 1]), init(1, [2]), stmt()), [WRONG, DONE, (0, [])])


if __name__ == "__main__":
    unittest.main()
