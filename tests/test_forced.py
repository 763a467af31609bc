import random
import unittest

from helper import (
    NO_PROBLEMS, all_rows, all_steps, random_problem, random_tight_problem, read, right_by_the_words, told_alike, write,
)
from storejudge.errors import NoProblem
from storejudge.forced import forced
from storejudge.rings import ring_fault
from storejudge.store import FIRST


def led_to(problem, keys):
    """All pairs that lists of right steps lead to, by going through all steps until none tells more."""
    taken = []
    grown = True
    while grown:
        grown = False
        for step in all_steps(len(problem[1]), keys):
            if step[:2] not in [one[:2] for one in taken] and right_by_the_words(problem, taken, step):
                taken.append(step)
                grown = True
    return sorted(one[:2] for one in taken)


class Forced(unittest.TestCase):
    """[24]: all that is forced, or a ring."""

    def pairs(self, expected, problem):
        told = told_alike(self, forced, (problem,))
        self.assertEqual(told, ("pairs", expected))
        self.assertIsInstance(told[1], list)
        told[1].clear()
        self.assertEqual(forced(problem), ("pairs", expected))

    def ring(self, problem):
        told = told_alike(self, forced, (problem,))
        self.assertEqual(told[0], "ring")
        self.assertEqual(len(told), 2)
        self.assertIsNone(ring_fault(problem, told[1]))
        kept = list(told[1])
        if isinstance(told[1], list):
            told[1].clear()
        self.assertEqual(list(forced(problem)[1]), kept)
        return kept

    def test_nothing(self):
        self.pairs([], (FIRST, (), (), ()))
        self.pairs([], (FIRST, (write(1), write(2)), (), ()))
        self.pairs([], (FIRST, (write(1), write(2, "may"), write(3, "out")), ((0, 1), (0, 2), (2, 0)), ()))

    def test_told_and_through(self):
        items = tuple(write(k) for k in range(4))
        self.pairs([(0, 1), (0, 2), (1, 2)], (FIRST, items, ((1, 2), (0, 1), (1, 2)), ()))
        self.pairs([(0, 1), (0, 2), (0, 3), (2, 1), (3, 1), (3, 2)], (FIRST, items, ((2, 1), (3, 2), (0, 3)), ()))
        self.ring((FIRST, items, ((2, 1), (3, 2), (1, 3)), ()))
        self.ring((FIRST, items, ((2, 1), (1, 2)), ()))

    def test_only_and_first(self):
        self.pairs([(1, 0)], (FIRST, (read(5), write(5)), (), ()))
        self.pairs([(0, 1)], (FIRST, (read(0), write(5)), (), ()))
        self.pairs([], (FIRST, (read(0), write(0), write(5)), (), ()))
        self.pairs([], (FIRST, (read(5), write(5), write(5)), (), ()))
        self.ring((FIRST, (read(5), write(5)), ((0, 1),), ()))
        self.ring((FIRST, (read(0), write(5)), ((1, 0),), ()))

    def test_late_and_early(self):
        items = (read(5), write(5), write(6))
        self.pairs([(0, 2), (1, 0), (1, 2)], (FIRST, items, ((1, 2),), ()))
        self.pairs([(1, 0), (2, 0), (2, 1)], (FIRST, items, ((2, 0),), ()))
        self.ring((FIRST, items, ((1, 2), (2, 0)), ()))

    def test_apart(self):
        items = tuple(write(k) for k in range(3))
        self.pairs([(0, 2), (1, 2)], (FIRST, items, ((0, 2),), ((0, 1, 2),)))
        self.pairs([(2, 0), (2, 1)], (FIRST, items, ((2, 1),), ((0, 1, 2),)))
        self.pairs([(0, 1)], (FIRST, items, ((0, 1),), ((0, 1, 2),)))
        self.ring((FIRST, items, ((0, 2), (2, 1)), ((0, 1, 2),)))

    def test_a_may_that_must_stand(self):
        # The read sees what item 1 wrote, which stands then behind item 2 by what was told.
        items = (read(5), write(5, "may"), write(6))
        self.pairs([(1, 0), (2, 0), (2, 1)], (FIRST, items, ((2, 1),), ()))
        self.pairs([(0, 2), (1, 0), (1, 2)], (FIRST, items, ((1, 2),), ()))
        steps = self.ring((FIRST, items, ((2, 1), (1, 2)), ()))
        self.assertIn((1, 0, ("only", 0)), steps)
        self.pairs([], (FIRST, (write(6), write(5, "may")), ((0, 1), (1, 0)), ()))

    def test_a_may_that_must_stand_between(self):
        # The key has at first what the read got; behind item 2 only item 1 can have brought it back.
        items = (read(0, key=3), write(0, "may", key=3), write(6, key=3))
        self.pairs([(2, 0), (2, 1)], (FIRST, items, ((2, 0),), ()))
        steps = self.ring((FIRST, items, ((1, 2), (2, 0)), ()))
        self.assertIn((2, 1, ("early", 3, 0)), steps)

    def test_a_ring_by_each_reason(self):
        late = (FIRST, (read(5, key=3), write(5, key=3), write(6, key=3)), ((1, 2), (2, 0)), ())
        first = (FIRST, (read(0, key=3), write(5, key=3)), ((1, 0),), ())
        only = (FIRST, (read(5, key=3), write(5, key=3)), ((0, 1),), ())
        writes = tuple(write(k) for k in range(4))
        behind = (FIRST, writes, ((0, 2), (2, 3), (3, 1)), ((0, 1, 2),))
        ahead = (FIRST, writes, ((2, 1), (0, 3), (3, 2)), ((0, 1, 2),))
        for problem in (late, first, only, behind, ahead):
            self.ring(problem)

    def test_a_ring_alone_is_told(self):
        items = tuple(write(k) for k in range(120))
        before = tuple((x, y) for x in range(60) for y in range(x + 1, 60))
        self.assertEqual(len(forced((FIRST, items, before, ()))[1]), len(before))
        self.assertLess(len(self.ring((FIRST, items, before + ((70, 71), (71, 70)), ()))), 10)
        self.assertLess(len(self.ring((FIRST, items, before + ((59, 0),), ()))), 10)

    def test_many_items(self):
        items = tuple(write(k) for k in range(1, 61)) + tuple(read(k) for k in range(1, 61))
        chain = tuple((60 + k, k + 1) for k in range(59))
        told = forced((FIRST, items, chain, ()))
        self.assertEqual(told[0], "pairs")
        self.assertIn((1, 60 + 59), told[1])
        self.assertEqual(told[1], sorted(set(told[1])))
        steps = self.ring((FIRST, items, chain + ((119, 0),), ()))
        self.assertLessEqual(len(steps), 5000)

    def test_all_that_steps_lead_to(self):
        chance = random.Random(24)
        seen = {"ring": 0, "pairs": 0}
        for number in range(600):
            problem = random_problem(chance) if number % 4 == 0 else random_tight_problem(chance)
            expected = led_to(problem, range(2))
            told = told_alike(self, forced, (problem,))
            seen[told[0]] += 1
            rows = all_rows(problem)
            if any(x == y for x, y in expected):
                self.ring(problem)
                self.assertEqual(rows, [])
            else:
                self.assertEqual(told, ("pairs", expected), problem)
            for row in rows:
                for x, y in told[1]:
                    self.assertLess(row.index(x), row.index(y))
        self.assertGreater(min(seen.values()), 40)

    def test_no_problem(self):
        for thing in NO_PROBLEMS:
            with self.assertRaises(NoProblem):
                forced(thing)


if __name__ == "__main__":
    unittest.main()
