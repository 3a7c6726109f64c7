"""What is added counts from then on, whatever was asked before; what is refused changes nothing."""

import unittest

from lines import (DONE, FULL, HUGE, NO, WRONG, access, ask, at, attempt, carried, dep, init, level, loops, meet, read,
                   steps, stmt, write)

ZERO = [0, 0, 0, 0]
X = [0, 1, 0, 0]
CELL = ZERO + ZERO
U = [0, 0, 0, 0]
LAST = [2, 0, 0, 0]
QUESTIONS = [dep(0, 0), carried(0), attempt(1, X), attempt(1, ZERO), steps(), level(LAST), at(0), at(2)]
REFUSED = [
    (access(3, 0, 1, CELL), WRONG), (access(0, 8, 1, CELL), WRONG), (access(0, 0, 1, [0] * 7), WRONG),
    (access(HUGE, 0, 1, CELL), WRONG), (init(0, []), WRONG), (init(1, [65]), WRONG), (init(2, [4]), WRONG),
    (init(1, [0]), WRONG), (carried(1), WRONG), (carried(HUGE), WRONG), (attempt(0, []), WRONG),
    (attempt(1, []), WRONG), (attempt(5, [1] * 20), WRONG), (attempt(HUGE, [1] * 80), WRONG), (level([]), WRONG),
    (level([3, 0, 0, 0]), WRONG), (level([HUGE] * 10), WRONG), (meet(U, []), WRONG), (dep(0, 3), WRONG),
]


class Added(unittest.TestCase):
    def test_an_access(self):
        told = ask(loops(3), stmt(), *QUESTIONS, write(0, X, ZERO), *QUESTIONS, read(0, [1, 0, 0, 0], ZERO), *QUESTIONS,
                   write(0, ZERO, ZERO), *QUESTIONS)
        answered = [told[2 + 9 * k:10 + 9 * k] for k in range(4)]
        one_step = [NO, NO, NO, NO, (1, []), (0, []), (3, []), (0, [])]
        self.assertEqual(answered[0], one_step)
        self.assertEqual(answered[1], one_step)
        # All rounds read cell 1, which round 1 writes.
        first = (1, U + [1, 0, 0, 0])
        self.assertEqual(answered[2], [first, first, NO, first, (3, []), (2, []), (1, []), (1, [])])
        self.assertEqual(answered[3], answered[2])

    def test_an_access_of_another_statement(self):
        ask_two = [carried(0), attempt(1, X + X), steps(), level([0, 0, 0, 1]), level([2, 0, 0, 0]), at(0)]
        told = ask(loops(3), stmt(), stmt(), write(0, X, ZERO), *ask_two, read(1, X, ZERO), *ask_two)
        self.assertEqual(told[4:10], [NO, NO, (1, []), (0, []), (0, []), (6, [])])
        self.assertEqual(told[11:], [NO, (1, U + [0, 0, 0, 1]), (2, []), (1, []), (0, []), (3, [])])

    def test_a_statement(self):
        told = ask(loops(3), steps(), at(0), attempt(1, []), level(U), stmt(), steps(), at(0), attempt(1, []), level(U),
                   stmt(), steps(), at(0), attempt(1, X), attempt(1, X + X), level([2, 0, 0, 1]))
        self.assertEqual(told[1:5], [NO, NO, NO, WRONG])
        self.assertEqual(told[6:10], [(1, []), (3, []), WRONG, NO])
        self.assertEqual(told[11:], [(1, []), (6, []), WRONG, NO, NO])

    def test_a_statement_between_the_instances(self):
        # One statement more stands in each round: the steps of the others stay with them.
        levels = [level([x, 0, 0, s]) for x in range(3) for s in (0, 1)]
        told = ask(loops(3), stmt(), write(0, CELL), steps(), stmt(), *levels, at(0), carried(0), dep(0, 0),
                   attempt(2, X + ZERO + ZERO + ZERO))
        self.assertEqual([answer[0] for answer in told[5:12]], [0, 0, 1, 0, 2, 0, 4])
        self.assertEqual(told[12:], [(1, U + [1, 0, 0, 0]), (1, U + [1, 0, 0, 0]), NO])

    def test_each_question_alone(self):
        # Whichever call was asked before the change, all are asked anew after it.
        before = [carried(0), attempt(1, X), steps(), level(U), at(0), dep(0, 0), meet(U, LAST)]
        wanted = ask(loops(3), stmt(), write(0, CELL), *QUESTIONS)[3:]
        for call in before:
            with self.subTest(call=call):
                self.assertEqual(ask(loops(3), stmt(), call, write(0, CELL), *QUESTIONS)[4:], wanted)
                self.assertEqual(ask(loops(3), call, stmt(), call, write(0, CELL), call, *QUESTIONS)[6:], wanted)


class Anew(unittest.TestCase):
    def test_a_new_init(self):
        chain = [loops(3), stmt(), write(0, CELL)]
        told = ask(*chain, *QUESTIONS, loops(2, 3), steps(), at(0), carried(0), carried(1), attempt(1, []), level(U),
                   stmt(), steps(), at(0), carried(1), level([1, 2, 0, 0]), level([2, 0, 0, 0]))
        self.assertEqual(told[11:18], [DONE, NO, NO, NO, NO, NO, WRONG])
        self.assertEqual(told[18:], [(0, []), (1, []), (6, []), NO, NO, WRONG])

    def test_the_same_init(self):
        chain = [loops(3), stmt(), write(0, CELL)]
        self.assertEqual(ask(*chain, steps(), loops(3), steps(), at(0), carried(0))[4:], [DONE, NO, NO, NO])
        twice = ask(*chain, *QUESTIONS, *chain, *QUESTIONS)
        self.assertEqual(twice[:11], twice[11:])


class RefusedCalls(unittest.TestCase):
    def test_nothing_changes(self):
        nest = [loops(3), stmt(), write(0, X, ZERO), read(0, [-1, 1, 0, 0], ZERO)]
        wanted = ask(*nest, *QUESTIONS)[4:]
        for call, answer in REFUSED:
            with self.subTest(call=call):
                told = ask(*nest, call, *QUESTIONS, call, *QUESTIONS)
                self.assertEqual(told[4:], [answer] + wanted + [answer] + wanted)

    def test_nothing_changes_where_all_is_full(self):
        nest = [loops(3), stmt(), stmt(), stmt()] + [read(0, X, ZERO)] * 3
        asked = [carried(0), steps(), at(0), attempt(1, ZERO * 3), level([2, 0, 0, 2])]
        wanted = [NO, (1, []), (9, []), NO, NO]
        told = ask(*nest, *asked, stmt(), write(0, ZERO, ZERO), *asked)
        self.assertEqual(told[7:], wanted + [FULL, FULL] + wanted)

    def test_questions_change_nothing(self):
        nest = [loops(3), stmt(), write(0, CELL)]
        once = ask(*nest, *QUESTIONS)[3:]
        self.assertEqual(ask(*nest, *QUESTIONS * 5)[3:], once * 5)
        self.assertEqual(ask(*nest, *reversed(QUESTIONS))[3:], list(reversed(once)))


if __name__ == "__main__":
    unittest.main()
