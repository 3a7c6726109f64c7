"""How lines are read and answered, and that nothing else is done."""

import contextlib
import io
import os
import subprocess
import sys
import unittest

from lines import (DONE, FULL, HUGE, LEAST, MOST, NO, WRONG, YES, access, answers, ask, at, attempt, carried, dep,
                   differences, init, level, line_of, loops, meet, parted, steps, stmt, write)
from words import own_order

TOP = os.path.dirname(os.path.dirname(os.path.abspath(__file__)))
CELL = [0] * 8
U = [0, 0, 0, 0]
SOME_OF_ALL = [
    stmt(), loops(2, 2), stmt(), write(0, CELL), access(0, 8, 1, CELL), meet(U, U), dep(0, 0), carried(0),
    attempt(1, [0, 1, 0, 0]), attempt(2, [0, 1, 0, 0, 0, 0, 1, 0]), attempt(5, [1, 2, 3]), steps(), level(U),
    level([1, 1, 0, 0]), level([2, 0, 0, 0]), at(0), at(HUGE), carried(1), carried(2), init(0, [1, 2]), stmt(),
    dep(0, 1), meet(U, [0] * 9), attempt(4, [LEAST, MOST] * 16), steps(), at(1),
]


class Unchangeable(list):
    """A list that tells if anything changes it, if only for a while."""


def refuse_change(name):
    def changed(self, *told):
        raise AssertionError(f"{name} on the list that was handed in")
    return changed


for method in ("append", "clear", "extend", "insert", "pop", "remove", "reverse", "sort", "__setitem__", "__delitem__",
               "__iadd__", "__imul__"):
    setattr(Unchangeable, method, refuse_change(method))


class Reading(unittest.TestCase):
    def test_as_told(self):
        line = [0, 1, 1, 2, 1, 2, 0, 0, 1, 8, 0, 0, 0, 0, 0, 0, 0, 0, 5, 0, 6, 1, 4, 0, 1, 0, 0, 6, 1, 4, 0, 0, 0, 0, 7,
                8, 4, 1, 0, 0, 0, 9, 0, 9, 2]
        self.assertEqual(answers(line), [
            3, 0, 0, 0, 3, 0, 0, 0, 3, 1, 0, 0, 11, 1, 0, 8, 0, 0, 0, 0, 1, 0, 0, 0, 3, 0, 0, 0, 11, 1, 0, 8, 0, 0, 0,
            0, 1, 0, 0, 0, 3, 2, 0, 0, 3, 1, 0, 0, 3, 1, 0, 0, 3, 0, 0, 0])

    def test_refusals_as_told(self):
        for call in (carried(1), attempt(0, []), attempt(1, []), attempt(2, [0] * 4), level([]), level([0, 0, 0, 1])):
            with self.subTest(call=call):
                self.assertEqual(answers(call), [3, -8, 0, 0])
                self.assertEqual(answers(loops(2) + stmt() + call), [3, 0, 0, 0] * 2 + [3, -1, 0, 0])

    def test_all_numbers_and_lists_are_read_whole(self):
        # Their numbers look like calls, so that one read too few or too many shows behind it.
        looked_at = [carried(0), carried(HUGE), steps(), at(1), at(HUGE), attempt(HUGE, []), attempt(1, [1, 1, 1, 1])]
        looked_at += [attempt(4, [1] * count) for count in (0, 1, 16, 79, 80)]
        looked_at += [attempt(2, [LEAST, MOST] * 4)]
        looked_at += [level([1] * count) for count in range(11)] + [level([HUGE] * 10)]
        for call in looked_at:
            with self.subTest(call=call):
                told = ask(loops(2), stmt(), call, stmt(), write(1, CELL), call, dep(1, 1), stmt(), stmt())
                self.assertEqual(told[:2] + told[3:5], [DONE, (0, []), (1, []), (1, [])])
                self.assertEqual(told[6:], [(1, [0, 0, 0, 1, 1, 0, 0, 1]), (2, []), FULL])

    def test_all_of_them_at_a_beginning(self):
        self.assertEqual(ask(*[carried(1), attempt(1, [1] * 80), steps(), level([1] * 10), at(1), loops(1)])[-1], DONE)

    def test_answers_in_order(self):
        self.assertEqual(answers(line_of([init(2, [1]), loops(2), stmt(), stmt(), dep(0, 2), meet(U, U)])),
                         [3, -1, 0, 0, 3, 0, 0, 0, 3, 0, 0, 0, 3, 1, 0, 0, 3, -1, 0, 0, 3, 0, 0, 0])

    def test_whole_numbers_and_a_list(self):
        told = answers(line_of(SOME_OF_ALL))
        self.assertIs(type(told), list)
        self.assertEqual({type(number) for number in told}, {int})


class NothingElse(unittest.TestCase):
    def test_handed_in_is_not_changed(self):
        for calls in ([[1]], SOME_OF_ALL, [loops(4, 4, 4)] + SOME_OF_ALL[2:] * 3):
            line = line_of(calls)
            copy = list(line)
            told = answers(line)
            self.assertEqual(line, copy)
            self.assertEqual(answers(Unchangeable(line)), told)
            self.assertIsNot(told, line)

    def test_twice_alike(self):
        line = line_of(SOME_OF_ALL)
        told = answers(line)
        kept = list(told)
        self.assertEqual(answers(line), kept)
        # What was given back is the caller's: changing it changes nothing to come.
        told.clear()
        self.assertEqual(answers(line), kept)

    def test_nothing_is_kept(self):
        answers(line_of([loops(2), stmt(), stmt(), stmt()]))
        self.assertEqual(answers([1]), [3, -8, 0, 0])
        self.assertEqual(ask(loops(2), stmt()), [DONE, (0, [])])

    def test_nothing_is_printed_or_read(self):
        out = io.StringIO()
        stdin = sys.stdin
        sys.stdin = None
        try:
            with contextlib.redirect_stdout(out), contextlib.redirect_stderr(out):
                answers(line_of(SOME_OF_ALL))
        finally:
            sys.stdin = stdin
        self.assertEqual(out.getvalue(), "")

    def test_nothing_is_imported(self):
        program = (
            "import sys; before = set(sys.modules)\n"
            "from loopnest.desk import answers\n"
            "between = set(sys.modules)\n"
            f"answers({line_of(SOME_OF_ALL)})\n"
            "print(sorted(m for m in between - before if m.split('.')[0] != 'loopnest'), len(set(sys.modules) - between))"
        )
        done = subprocess.run([sys.executable, "-c", program], cwd=TOP, capture_output=True, text=True)
        self.assertEqual((done.stdout, done.stderr), ("[] 0\n", ""))


class LongLines(unittest.TestCase):
    def alike(self, told, wanted):
        self.assertEqual(differences(told, wanted), [])

    def test_400_calls_of_one_kind(self):
        self.alike(answers([1] * 400), [3, -8, 0, 0] * 400)
        self.alike(ask(*[loops(4, 4, 4)] * 400), [DONE] * 400)
        self.alike(ask(loops(64), *[stmt()] * 399)[4:], [FULL] * 396)

    def test_400_calls_that_search_all(self):
        # Nothing meets, as all that's touched by both is only read: every pair is looked at.
        nest = [loops(64), stmt(), stmt()] + [access(s, 0, 0, CELL) for s in (0, 1) for k in range(3)]
        told = ask(*nest, *[dep(0, 1)] * (400 - len(nest)))
        self.alike(told[len(nest):], [(0, [])] * (400 - len(nest)))

    def test_400_of_each_kind_on_the_largest_nests(self):
        own = own_order(3)
        for n in ([64], [8, 8], [4, 4, 4], [1, 1, 64]):
            end = [length - 1 for length in n] + [0] * (3 - len(n)) + [2]
            second = ([0] * (len(n) - 1) + [1, 0, 0])[:3] + [0]
            for number in (0, 1):
                nest = [loops(*n), stmt(), stmt(), stmt()]
                nest += [access(s, 0, number, CELL) for s in range(3) for k in range(3)]
                for call, wanted in (
                        (stmt(), [FULL, FULL]), (access(2, 7, 1, CELL), [FULL, FULL]), (meet(U, end), [NO, YES]),
                        (dep(2, 1), [NO, (1, [0, 0, 0, 2] + second[:3] + [1])]),
                        (carried(len(n) - 1), [NO, (1, U + second)]),
                        (attempt(1, [0] * 12), [NO, (1, U + [0, 0, 0, 1])]), (steps(), [(1, []), (192, [])]),
                        (level(end), [(0, []), (191, [])]), (at(0), [(192, []), (1, [])])):
                    count = 400 - len(nest)
                    with self.subTest(n=n, write=number, call=call):
                        self.alike(ask(*nest, *[call] * count)[len(nest):], [wanted[number]] * count)
                # As many as there's room for in 16000 numbers: every pair is looked at, and none is barred.
                count = 300
                told = ask(*nest, *[attempt(4, own)] * count)
                self.alike(told[len(nest):], [NO] * count)

    def test_400_calls_that_change_and_ask_in_turn(self):
        one = [loops(64), stmt(), stmt(), stmt()]
        wanted = [DONE, (0, []), (1, []), (2, [])]
        for k in range(3):
            for s in range(3):
                one += [access(s, 0, 1, CELL), steps()]
                wanted += [(k + 1, []), (64 * (s + 1 if k == 0 else 3), [])]
        self.alike(ask(*(one * 19)[:400]), (wanted * 19)[:400])

    def test_400_calls_in_turn(self):
        one = [loops(4, 4), stmt(), write(0, CELL), dep(0, 0), meet(U, [3, 3, 0, 0]), dep(0, 1), stmt(), carried(9)]
        wanted = [DONE, (0, []), (1, []), (1, U + [0, 1, 0, 0]), YES, WRONG, (1, []), WRONG]
        self.alike(ask(*one * 50), wanted * 50)

    def test_16000_numbers(self):
        # The longest rows there are: the line is about as long as it may be.
        calls = [loops(2), stmt()] + [attempt(1, [1] * 80)] * 188 + [access(0, 0, 1, [1] * 20)] * 10
        line = line_of(calls + [stmt()])
        self.assertTrue(15000 < len(line) <= 16000)
        told = parted(answers(line), len(calls) + 1)
        self.alike(told[2:], [WRONG] * 198 + [(1, [])])


if __name__ == "__main__":
    unittest.main()
