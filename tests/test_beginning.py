"""A line's beginning, and what init does to the nest that there is."""

import unittest

from lines import (DONE, FULL, HUGE, NO, NO_NEST, WRONG, YES, access, answers, ask, at, attempt, carried, dep, init,
                   last, level, loops, meet, steps, stmt, write)

CELL = [0] * 8
EVERY_CALL_BUT_INIT = [
    stmt(), access(0, 0, 1, CELL), meet([0] * 4, [0] * 4), dep(0, 0), carried(0), attempt(1, [0, 1, 0, 0]), steps(),
    level([0] * 4), at(0),
]
WRONG_CALLS = [
    access(HUGE, HUGE, HUGE, []), access(0, 8, 0, [1] * 20), meet([], []), meet([HUGE] * 10, [1] * 3),
    dep(HUGE, HUGE), carried(3), carried(HUGE), attempt(0, []), attempt(0, [0] * 4), attempt(5, [0] * 20),
    attempt(1, [0] * 3), attempt(1, []), attempt(4, [-1] * 80), attempt(HUGE, [-1] * 80), level([]), level([0] * 3),
    level([0, 0, 0, 1]), level([64, 0, 0, 0]), level([HUGE] * 10), at(1), at(HUGE),
]


class Beginning(unittest.TestCase):
    def test_as_told(self):
        self.assertEqual(answers([1]), [3, -8, 0, 0])

    def test_each_call_alone(self):
        for call in EVERY_CALL_BUT_INIT + WRONG_CALLS:
            with self.subTest(call=call):
                self.assertEqual(answers(call), [3, -8, 0, 0])

    def test_all_calls_one_behind_another(self):
        calls = EVERY_CALL_BUT_INIT + WRONG_CALLS
        self.assertEqual(ask(*calls), [NO_NEST] * len(calls))

    def test_before_init_nothing_is_kept(self):
        self.assertEqual(ask(stmt(), loops(2), dep(0, 0), stmt()), [NO_NEST, DONE, WRONG, (0, [])])

    def test_refused_init_leaves_no_nest(self):
        for refused in (init(0, []), init(4, [1] * 4), init(1, [65]), init(2, [1])):
            for call in EVERY_CALL_BUT_INIT + WRONG_CALLS:
                with self.subTest(refused=refused, call=call):
                    self.assertEqual(ask(refused, call), [WRONG, NO_NEST])


class Again(unittest.TestCase):
    def test_refused_init_leaves_the_nest(self):
        before = [loops(2, 3), stmt(), write(0, CELL), write(0, CELL)]
        for refused in (init(0, []), init(1, [0]), init(2, [13, 5]), init(1, [2, 3]), init(HUGE, [])):
            with self.subTest(refused=refused):
                told = ask(*before, refused, write(0, CELL), write(0, CELL), meet([0, 0, 0, 0], [1, 2, 0, 0]),
                           meet([0, 0, 0, 0], [2, 0, 0, 0]), dep(0, 0), stmt())
                self.assertEqual(told[4:], [WRONG, (3, []), FULL, YES, WRONG, (1, [0, 0, 0, 0, 0, 1, 0, 0]), (1, [])])

    def test_taken_again_starts_without_statements(self):
        full = [stmt(), stmt(), stmt(), write(0, CELL), write(0, CELL), write(0, CELL)]
        told = ask(loops(4), *full, loops(2), dep(0, 0), access(0, 0, 1, CELL), stmt(), dep(0, 0), write(0, CELL))
        self.assertEqual(told[7:], [DONE, WRONG, WRONG, (0, []), NO, (1, [])])

    def test_taken_again_has_its_own_loops(self):
        told = ask(loops(4), loops(1, 2), stmt(), meet([3, 0, 0, 0], [0, 0, 0, 0]), meet([0, 1, 0, 0], [0, 0, 0, 0]))
        self.assertEqual(told[3:], [WRONG, NO])

    def test_the_same_init_again(self):
        self.assertEqual(last(loops(2), stmt(), loops(2), stmt()), (0, []))


if __name__ == "__main__":
    unittest.main()
