import random
import unittest

from helper import (
    NO_PROBLEMS, all_nodes, all_rows, random_history, random_problem, random_tight_problem, read, told_alike, write,
)
from storejudge.errors import NoProblem
from storejudge.judge import judge
from storejudge.papers import paper_fault
from storejudge.promises import PROMISES, problems_of
from storejudge.rows import row_fault
from storejudge.stands import search
from storejudge.store import FIRST


class Judge(unittest.TestCase):
    """[29]: the judge."""

    def row(self, problem, most):
        told = told_alike(self, judge, (problem, most))
        self.assertEqual((told[0], len(told)), ("row", 2))
        self.assertIsInstance(told[1], tuple)
        self.assertIsNone(row_fault(problem, told[1]))

    def paper(self, problem, most):
        told = told_alike(self, judge, (problem, most))
        self.assertEqual((told[0], len(told)), ("paper", 2))
        self.assertIsNone(paper_fault(problem, told[1]))

    def test_rows(self):
        self.row((FIRST, (), (), ()), 1)
        self.row((FIRST, (write(1, "may"), write(1, "out")), (), ()), 4)
        self.row((FIRST, (read(2), read(1), write(1), write(2, "may")), ((0, 1),), ()), 100)

    def test_rings(self):
        problem = (FIRST, (write(1), write(2), read(1), read(2), read(1)), ((2, 3), (3, 4)), ())
        self.paper(problem, 5000)

    # No ring, and no row: nobody wrote the 9.
    NEITHER = (FIRST, (write(1), write(2), write(3), read(9)), (), ())

    def test_neither_with_few_nodes(self):
        self.paper(self.NEITHER, len(all_nodes(self.NEITHER)))
        self.paper(self.NEITHER, 5000)

    def test_neither_with_more_nodes(self):
        many = (FIRST, tuple(write(k) for k in range(1, 40)) + (read(99),), (), ())
        for most in (1, 2, 1000, 5000):
            self.assertIn(told_alike(self, judge, (many, most))[0], ("more", "paper"))
        self.assertEqual(judge((FIRST, (read(9), (("add", 0, 1), None, "may")), (), ()), 1), ("more",))

    def test_many_items(self):
        items = tuple(write(k) for k in range(60)) + tuple(read(k) for k in range(60))
        self.row((FIRST, items, (), ()), 5000)
        self.row((FIRST, items[::-1], (), ()), 5000)

    def test_rows_that_a_plain_search_does_not_find(self):
        # Each read is forced behind the write of its value, ahead of which the search would go astray.
        items = tuple(write(k, key=k % 8) for k in range(1, 30)) + tuple(read(k, key=k % 8) for k in range(1, 30))
        problem = (FIRST, items, tuple((28 + k, 28 + k - 1) for k in range(2, 30)), ())
        self.assertEqual(search(problem, 2000), ("more",))
        self.row(problem, 2000)

    def test_lists_are_the_askers_own(self):
        kept = judge(self.NEITHER, 5000)
        told = judge(self.NEITHER, 5000)
        self.assertEqual(told[1][0], "stands")
        told[1][1].clear()
        self.assertEqual(judge(self.NEITHER, 5000), kept)

    def test_as_all_rows_have_it(self):
        chance = random.Random(29)
        seen = {"row": 0, "paper": 0, "more": 0}
        for number in range(400):
            problem = random_problem(chance) if number % 2 else random_tight_problem(chance, 5)
            rows = all_rows(problem)
            count = len(all_nodes(problem))
            for most in {1, max(1, count - 1), count, 5000}:
                told = told_alike(self, judge, (problem, most))
                seen[told[0]] += 1
                if told[0] == "row":
                    self.assertIn(told[1], rows)
                elif told[0] == "paper":
                    self.assertEqual(rows, [])
                    self.assertIsNone(paper_fault(problem, told[1]))
                else:
                    self.assertEqual(told, ("more",))
                    self.assertGreater(count, most)
        self.assertGreater(min(seen.values()), 20, seen)

    def test_problems_of_histories(self):
        chance = random.Random(290)
        for number in range(12):
            history = random_history(chance, 4, 12, number % 3, keys=3, values=6)
            for promise in PROMISES:
                for _, problem in problems_of(history, promise):
                    told = judge(problem, 200)
                    if told[0] == "row":
                        self.assertIsNone(row_fault(problem, told[1]))
                    elif told[0] == "paper":
                        self.assertIsNone(paper_fault(problem, told[1]))
                    else:
                        self.assertEqual(told, ("more",))

    def test_no_problem(self):
        for thing in NO_PROBLEMS:
            for most in (1, 5000, None, "x"):
                with self.assertRaises(NoProblem):
                    judge(thing, most)


if __name__ == "__main__":
    unittest.main()
