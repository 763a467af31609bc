import itertools
import random
import unittest

from helper import NO_PROBLEMS, ODD_THINGS, is_row, random_problem, told_alike
from storejudge.errors import NoProblem
from storejudge.rows import row_fault
from storejudge.store import FIRST


WRITE = (("write", 0, 1), ("done",), "must")
READ = (("read", 0), ("got", 1), "must")
MAY = (("write", 0, 2), None, "may")
OUT = (("read", 1), None, "out")


class Fault(unittest.TestCase):
    """[13], [15]: rows and their faults."""

    PROBLEM = (FIRST, (READ, WRITE, MAY, OUT), ((1, 2),), ())

    def told(self, fault, row, problem=None):
        problem = problem or self.PROBLEM
        self.assertEqual(told_alike(self, row_fault, (problem, tuple(row))), fault)
        self.assertEqual(told_alike(self, row_fault, (problem, list(row))), fault)

    def test_rows(self):
        self.told(None, [1, 0])
        self.told(None, [1, 0, 2])
        self.told(None, [], (FIRST, (), (), ()))
        self.told(None, [], (FIRST, (MAY, OUT), (), ()))
        self.told(None, [0], (FIRST, (MAY, OUT), (), ()))

    def test_form(self):
        things = [thing for thing in ODD_THINGS if thing not in ((), [], [1, 2])]
        for thing in things + [(4,), (1, 0, 4), (-1,), (1, True), (1, False), (1, None), (1, "0"), (1, (0,)), {1: 0}]:
            self.assertEqual(told_alike(self, row_fault, (self.PROBLEM, thing)), ("form",), thing)
        self.assertEqual(row_fault((FIRST, (), (), ()), (0,)), ("form",))

    def test_form_goes_ahead_of_all_else(self):
        self.told(("form",), [0, 3, 3, 4])
        self.told(("form",), [3, -1])

    def test_place(self):
        self.told(("place", 0), [3])
        self.told(("place", 1), [1, 1])
        self.told(("place", 1), [1, 3, 0])
        self.told(("place", 0), [2, 1, 0])
        self.told(("place", 2), [1, 0, 1, 3])

    def test_place_of_triples(self):
        look = (("read", 1), None, "must")
        problem = (FIRST, (look, look, look), (), ((0, 1, 2),))
        for row in itertools.permutations(range(3)):
            self.told(("place", 1) if row == (0, 2, 1) else None, row, problem)

    def test_a_may_that_comes_too_late(self):
        look = (("read", 1), None, "must")
        may = (("read", 1), None, "may")
        self.told(("place", 1), [1, 0], (FIRST, (may, look), ((0, 1),), ()))
        self.told(None, [1], (FIRST, (may, look), ((0, 1),), ()))

    def test_answer(self):
        self.told(("answer", 0), [0, 1])
        self.told(("answer", 2), [1, 2, 0])
        self.told(("answer", 0), [0, 3])
        self.told(("answer", 0), [0], (FIRST, ((("write", 0, 1), ("refused",), "must"),), (), ()))

    def test_place_goes_ahead_of_answer_at_one_place(self):
        self.told(("place", 0), [0, 1], (FIRST, (READ, WRITE), ((1, 0),), ()))
        self.told(("place", 0), [0], (FIRST, ((("read", 0), ("got", 1), "out"),), (), ()))

    def test_missing(self):
        self.told(("missing", 0), [])
        self.told(("missing", 0), [1])
        self.told(("missing", 0), [1, 2])
        self.told(("missing", 1), [0], ((1,) + FIRST[1:], (READ, WRITE), (), ()))

    def test_missing_goes_behind_all_else(self):
        self.told(("answer", 0), [0])
        self.told(("place", 1), [1, 1])

    def test_as_the_words_have_it(self):
        chance = random.Random(15)
        kept = 0
        for _ in range(150):
            problem = random_problem(chance)
            numbers = range(len(problem[1]))
            for length in range(len(numbers) + 1):
                for row in itertools.permutations(numbers, length):
                    right = is_row(problem, row)
                    kept += right
                    self.assertIs(row_fault(problem, row) is None, right, (problem, row))
        self.assertGreater(kept, 100)

    def test_no_problem(self):
        for thing in NO_PROBLEMS:
            for row in [(), [], None, (0,), "x"]:
                with self.assertRaises(NoProblem):
                    row_fault(thing, row)


if __name__ == "__main__":
    unittest.main()
