"""stmt and access: what a nest takes, and what it refuses."""

import unittest

from lines import (DONE, FULL, HUGE, LEAST, MOST, NO, WRONG, YES, access, ask, dep, last, loops, meet, read, stmt,
                   write)

CELL = [0] * 8
U = [0, 0, 0, 0]


class Stmt(unittest.TestCase):
    def test_three_and_the_fourth(self):
        told = ask(loops(2), stmt(), stmt(), stmt(), stmt(), stmt())
        self.assertEqual(told, [DONE, (0, []), (1, []), (2, []), FULL, FULL])

    def test_without_accesses(self):
        self.assertEqual(ask(loops(2), stmt(), meet(U, U), dep(0, 0))[2:], [NO, NO])

    def test_refused_adds_nothing(self):
        told = ask(loops(2), stmt(), stmt(), stmt(), stmt(), dep(3, 0), write(3, CELL), meet([0, 0, 0, 3], U))
        self.assertEqual(told[5:], [WRONG, WRONG, WRONG])

    def test_one_more_takes_no_access_away(self):
        told = ask(loops(2), stmt(), write(0, CELL), stmt(), write(0, CELL), meet(U, U), meet([0, 0, 0, 1], U))
        self.assertEqual(told[4:], [(2, []), YES, NO])


class Access(unittest.TestCase):
    def test_three_and_the_fourth(self):
        told = ask(loops(2), stmt(), write(0, CELL), read(0, CELL), write(0, CELL), write(0, CELL), read(0, CELL))
        self.assertEqual(told[2:], [(1, []), (2, []), (3, []), FULL, FULL])

    def test_each_statement_has_its_own(self):
        told = ask(loops(2), stmt(), stmt(), stmt(), read(1, CELL), read(0, CELL), read(1, CELL), read(2, CELL),
                   read(1, CELL), read(1, CELL), read(0, CELL))
        self.assertEqual(told[4:], [(1, []), (1, []), (2, []), (1, []), (3, []), FULL, (2, [])])

    def test_no_such_statement(self):
        for s in (0, 1, 2, 3, HUGE):
            self.assertEqual(last(loops(2), access(s, 0, 1, CELL)), WRONG)
        for s in (1, 2, 3, HUGE):
            self.assertEqual(last(loops(2), stmt(), access(s, 0, 1, CELL)), WRONG)
        self.assertEqual(last(loops(2), stmt(), stmt(), stmt(), access(3, 0, 1, CELL)), WRONG)
        self.assertEqual(last(loops(2), stmt(), stmt(), stmt(), access(2, 0, 1, CELL)), (1, []))

    def test_arrays(self):
        for array in range(8):
            self.assertEqual(last(loops(2), stmt(), access(0, array, 1, CELL)), (1, []))
        for array in (8, 9, 1000, HUGE):
            self.assertEqual(last(loops(2), stmt(), access(0, array, 1, CELL)), WRONG)

    def test_counts_of_e(self):
        for count in range(21):
            for number in (0, 1, 5, LEAST, MOST):
                with self.subTest(count=count, number=number):
                    told = ask(loops(2), stmt(), access(0, 0, 1, [number] * count), stmt())
                    self.assertEqual(told[2:], [(1, []) if count == 8 else WRONG, (1, [])])

    def test_write(self):
        for number, answer in ((0, NO), (1, YES), (2, YES), (256, YES), (HUGE, YES)):
            with self.subTest(write=number):
                told = ask(loops(2), stmt(), access(0, 0, number, CELL), meet(U, U))
                self.assertEqual(told[2:], [(1, []), answer])

    def test_several_wrong_at_once(self):
        for s, array, e in ((1, 0, []), (HUGE, 8, [0] * 9), (1, 8, CELL), (0, 8, []), (0, HUGE, [0] * 20)):
            self.assertEqual(last(loops(2), stmt(), access(s, array, 1, e)), WRONG)

    def test_full_and_wrong(self):
        full = [loops(2), stmt(), stmt(), read(0, CELL), read(0, CELL), read(0, CELL)]
        for s, array, e in ((0, 8, CELL), (0, HUGE, CELL), (0, 0, []), (0, 0, [0] * 7), (0, 0, [0] * 9),
                            (0, 8, [0] * 20), (2, 0, CELL), (HUGE, 0, CELL)):
            with self.subTest(s=s, array=array, e=e):
                self.assertEqual(last(*full, access(s, array, 1, e)), WRONG)
        self.assertEqual(last(*full, access(0, 7, 1, CELL)), FULL)

    def test_refused_adds_nothing(self):
        for refused in (access(1, 0, 1, CELL), access(0, 8, 1, CELL), access(0, 0, 1, [0] * 7),
                        access(0, 0, 1, [0] * 9), access(0, 0, 1, [0] * 20), access(0, 0, 1, [])):
            told = ask(loops(2), stmt(), refused, meet(U, U), dep(0, 0), read(0, CELL))
            self.assertEqual(told[2:], [WRONG, NO, NO, (1, [])])
        full = ask(loops(2), stmt(), read(0, CELL), read(0, CELL), read(0, CELL), write(0, CELL), meet(U, U), dep(0, 0))
        self.assertEqual(full[5:], [FULL, NO, NO])

    def test_counts_from_one_after_a_refusal(self):
        told = ask(loops(2), stmt(), access(0, 8, 1, CELL), read(0, CELL), access(0, 0, 1, []), read(0, CELL))
        self.assertEqual(told[2:], [WRONG, (1, []), WRONG, (2, [])])


if __name__ == "__main__":
    unittest.main()
