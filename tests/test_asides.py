import random
import unittest

from helper import NO_PROBLEMS, all_rows, is_row, random_problem, random_tight_problem, read, told_alike, write
from storejudge.asides import aside
from storejudge.errors import NoProblem
from storejudge.problems import is_problem
from storejudge.store import FIRST

SWAP = (("swap", 2, 0, 1), ("yes",), "must")
LAY = (("lay", ((1, 4),)), ("done",), "must")
OUT = (("add", 1, 1), ("got", 4), "out")
ITEMS = (write(5), read(5), read(0, "may"), SWAP, LAY, OUT)
PAIRS = ((0, 1), (4, 2), (5, 0), (0, 1))
TRIPLES = ((0, 1, 3), (1, 3, 4), (3, 4, 2), (3, 0, 5), (0, 1, 3))
PROBLEM = ((1, 2, 3, 4, 5, 6, 7, 8), ITEMS, PAIRS, TRIPLES)


def by_the_words(problem, numbers):
    """[39]."""
    first, items, before, apart = problem
    listed = []
    for x, (step, answer, word) in enumerate(items):
        listed.append((step, None, "may") if x in numbers and word != "out" else (step, answer, word))
    return (first, tuple(listed), before, tuple(t for t in apart if not set(t[:2]) & set(numbers)))


class Aside(unittest.TestCase):
    """[39]."""

    def told(self, expected, problem, numbers):
        for lot in (tuple(numbers), list(numbers), tuple(reversed(numbers)), list(numbers) * 2):
            told = told_alike(self, aside, (problem, lot))
            self.assertEqual(told, expected)
            self.assertTrue(is_problem(told))
        self.assertEqual(by_the_words(problem, numbers), expected)

    def test_none(self):
        self.told(PROBLEM, PROBLEM, [])
        self.told((FIRST, (), (), ()), (FIRST, (), (), ()), [])

    def test_one(self):
        gone = (("write", 0, 5), None, "may")
        self.told((PROBLEM[0], (gone,) + ITEMS[1:], PAIRS, ((1, 3, 4), (3, 4, 2))), PROBLEM, [0])
        gone = (("lay", ((1, 4),)), None, "may")
        self.told((PROBLEM[0], ITEMS[:4] + (gone, OUT), PAIRS, ((0, 1, 3), (1, 3, 4), (3, 0, 5), (0, 1, 3))),
                  PROBLEM, [4])

    def test_a_may_loses_its_answer(self):
        gone = (("read", 0), None, "may")
        self.told((PROBLEM[0], ITEMS[:2] + (gone,) + ITEMS[3:], PAIRS, TRIPLES), PROBLEM, [2])

    def test_an_out_stays(self):
        self.told(PROBLEM, PROBLEM, [5])
        told = aside(PROBLEM, (5, 1, 4))
        self.assertEqual(told[1][5], OUT)
        self.assertEqual(told[3], ((3, 0, 5),))

    def test_all(self):
        items = tuple((item[0], None, "may") for item in ITEMS[:5]) + (OUT,)
        self.told((PROBLEM[0], items, PAIRS, ()), PROBLEM, [0, 1, 2, 3, 4, 5])
        self.told((PROBLEM[0], items, PAIRS, ()), PROBLEM, [3, 2, 5, 0, 4, 1])

    def test_a_refused_one_may_come_then(self):
        problem = (FIRST, ((("read", 0), ("refused",), "must"),), (), ())
        self.told((FIRST, ((("read", 0), None, "may"),), (), ()), problem, [0])

    def test_the_numbers_are_not_kept(self):
        numbers = [0, 1]
        told = aside(PROBLEM, numbers)
        numbers.append(3)
        self.assertEqual(told, aside(PROBLEM, (0, 1)))

    def test_each_row_is_one_with_some_set_aside(self):
        chance = random.Random(39)
        count = 0
        for number in range(200):
            problem = random_problem(chance) if number % 2 else random_tight_problem(chance)
            numbers = [x for x in range(len(problem[1])) if chance.randrange(2)]
            told = aside(problem, numbers)
            self.assertEqual(told, by_the_words(problem, numbers))
            for row in all_rows(problem):
                count += 1
                self.assertTrue(is_row(told, row))
        self.assertGreater(count, 200)

    def test_no_problem(self):
        for thing in NO_PROBLEMS:
            for numbers in [(), [], (0,), None]:
                with self.assertRaises(NoProblem, msg=thing):
                    aside(thing, numbers)


if __name__ == "__main__":
    unittest.main()
