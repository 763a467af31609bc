import itertools
import random
import unittest

from helper import NO_PROBLEMS, ODD_THINGS, all_nodes, all_rows, own_list, random_problem, told_alike
from storejudge.errors import NoProblem
from storejudge.problems import behind
from storejudge.rows import row_fault
from storejudge.stands import ends, search, stands_fault
from storejudge.store import FIRST

ONE = (1,) + FIRST[1:]
TWO = (2,) + FIRST[1:]
START = ((), FIRST)


def write(value, word="must"):
    return (("write", 0, value), ("done",), word)


def read(value, word="must"):
    return (("read", 0), ("got", value), word)


# No row: the read would have to see what nobody wrote.
NO_ROW = (FIRST, (write(1), write(2), read(3)), ((0, 1),), ())
NO_ROW_NODES = [START, ((0,), ONE), ((0, 1), TWO)]


def end_of(problem, row):
    stand = problem[0]
    for x in row:
        stand = behind(problem, stand, x)
    return stand


class Fault(unittest.TestCase):
    """[20]: the fault of nodes."""

    def told(self, fault, problem, nodes):
        self.assertEqual(told_alike(self, stands_fault, (problem, list(nodes))), fault)
        self.assertEqual(told_alike(self, stands_fault, (problem, tuple(nodes))), fault)

    def test_closed_lists(self):
        for nodes in itertools.permutations(NO_ROW_NODES):
            self.told(None, NO_ROW, nodes)
            self.told(None, NO_ROW, nodes + nodes[:2])
        self.told(None, NO_ROW, NO_ROW_NODES + [((0, 1), (7,) * 8)])

    def test_form(self):
        for thing in ODD_THINGS + ["nodes", {START: 1}]:
            if not isinstance(thing, (list, tuple)):
                self.assertEqual(told_alike(self, stands_fault, (NO_ROW, thing)), ("form", 0), thing)
        for thing in ODD_THINGS + [
            [(), FIRST], ((),), ((), FIRST, 0), ([], FIRST), ((), list(FIRST)), ((), FIRST[1:]), ((), FIRST[1:] + (True,)),
            ((3,), FIRST), ((-1,), FIRST), ((1, 0), FIRST), ((0, 0), FIRST), ((0, 2, 1), FIRST), ((False,), FIRST),
            ((True,), FIRST), ((0, None), FIRST), ((None, 0), FIRST), (("0",), FIRST), (0, FIRST), ((), None), (None, FIRST),
        ]:
            self.told(("form", 0), NO_ROW, [thing])
            self.told(("form", 2), NO_ROW, [((0,), ONE), ((0,), ONE), thing, thing])
            self.told(("form", 3), NO_ROW, NO_ROW_NODES + [thing])

    def test_first(self):
        self.told(("first",), NO_ROW, [])
        self.told(("first",), NO_ROW, NO_ROW_NODES[1:])
        self.told(("first",), NO_ROW, NO_ROW_NODES[1:] + [((), ONE)])
        self.told(("first",), (ONE,) + NO_ROW[1:], NO_ROW_NODES)
        self.told(("first",), (FIRST, (), (), ()), [])

    def test_first_goes_ahead_of_last_and_next(self):
        self.told(("first",), NO_ROW, [((0, 1, 2), ONE), ((0,), ONE)])

    def test_last(self):
        self.told(("last", 0), (FIRST, (), (), ()), [START])
        self.told(("last", 0), (FIRST, (write(1, "may"), write(1, "out")), (), ()), [START])
        self.told(("last", 3), NO_ROW, NO_ROW_NODES + [((0, 1, 2), TWO)])
        self.told(("last", 1), (FIRST, (write(1), write(2, "may")), (), ()), [START, ((0,), ONE), ((1,), TWO)])

    def test_next(self):
        self.told(("next", 0, 0), NO_ROW, [START])
        self.told(("next", 1, 1), NO_ROW, NO_ROW_NODES[:2])
        self.told(("next", 0, 1), NO_ROW, [NO_ROW_NODES[1], START])
        self.told(("next", 0, 0), NO_ROW, [START, ((0,), TWO), ((0, 1), TWO)])

    def test_next_tells_the_least_that_fails(self):
        problem = (FIRST, (read(5), write(1), write(2), write(1), read(7)), (), ())
        self.told(("next", 0, 1), problem, [START])
        self.told(("next", 0, 2), problem, [START, ((1,), ONE)])
        self.told(("next", 0, 3), problem, [START, ((1,), ONE), ((2,), TWO)])
        self.told(("next", 1, 2), problem, [START, ((1,), ONE), ((2,), TWO), ((3,), ONE)])

    def test_by_number_last_and_next_alike(self):
        self.told(("next", 0, 0), NO_ROW, [START, ((0, 1, 2), TWO)])
        self.told(("last", 0), NO_ROW, [((0, 1, 2), TWO), START])

    def test_nodes_that_can_not_be_come_to_are_held_too(self):
        self.told(("next", 3, 0), NO_ROW, NO_ROW_NODES + [((2,), FIRST)])
        self.told(("next", 4, 1), NO_ROW, NO_ROW_NODES + [((2,), FIRST), ((0, 2), ONE)])
        self.told(None, NO_ROW, NO_ROW_NODES + [((1,), TWO)])

    def test_mays_are_gone_through(self):
        problem = (FIRST, (read(3), write(1, "may"), write(2, "out")), (), ())
        self.told(("next", 0, 1), problem, [START])
        self.told(None, problem, [START, ((1,), ONE)])

    def test_no_problem(self):
        for thing in NO_PROBLEMS:
            for nodes in [[], (), None, [START], "x"]:
                with self.assertRaises(NoProblem):
                    stands_fault(thing, nodes)


class Search(unittest.TestCase):
    """[21]: the search, and the ends."""

    def test_stands(self):
        told = told_alike(self, search, (NO_ROW, 3))
        self.assertEqual(told[0], "stands")
        self.assertEqual(sorted(told[1]), sorted(NO_ROW_NODES))
        self.assertEqual(search(NO_ROW, 5000)[0], "stands")
        self.assertEqual(search(NO_ROW, 2), ("more",))
        self.assertEqual(search(NO_ROW, 1), ("more",))

    def test_stands_are_the_askers_own(self):
        told = search(NO_ROW, 3)
        self.assertIsInstance(told[1], list)
        told[1].clear()
        self.assertEqual(sorted(search(NO_ROW, 3)[1]), sorted(NO_ROW_NODES))

    def test_rows(self):
        self.assertEqual(search((FIRST, (), (), ()), 1), ("row", ()))
        self.assertEqual(search((FIRST, (write(1, "may"), write(1, "out")), (), ()), 5)[0], "row")
        problem = (FIRST, (read(2), write(1), write(2)), (), ())
        told = search(problem, 100)
        self.assertEqual(told[0], "row")
        self.assertIsInstance(told[1], tuple)
        self.assertIsNone(row_fault(problem, told[1]))

    def test_a_may_is_taken_where_it_is_needed(self):
        problem = (FIRST, (read(2), write(1), write(2, "may")), ((1, 2),), ())
        self.assertEqual(search(problem, 100), ("row", (1, 2, 0)))
        out = (FIRST, (read(2), write(1), write(2, "out")), ((1, 2),), ())
        self.assertEqual(search(out, 100)[0], "stands")

    def test_a_row_behind_dead_ends(self):
        steps = [("write", 1, 1), ("write", 1, 2), ("write", 0, 1), ("write", 0, 2), ("read", 0)]
        answers = [("done",)] * 4 + [("got", 1)]
        before = [(0, 1), (1, 2), (1, 3), (2, 4), (3, 4)]
        for numbers in itertools.permutations(range(5)):
            items = [None] * 5
            for k, x in enumerate(numbers):
                items[x] = (steps[k], answers[k], "must")
            problem = (FIRST, tuple(items), tuple((numbers[x], numbers[y]) for x, y in before), ())
            row = tuple(numbers[k] for k in (0, 1, 3, 2, 4))
            self.assertEqual(search(problem, 8), ("row", row))

    def test_many_items(self):
        free = (FIRST, tuple(write(k) for k in range(120)), (), ())
        told = search(free, 5000)
        self.assertEqual(told[0], "row")
        self.assertIsNone(row_fault(free, told[1]))
        stuck = (FIRST, tuple(write(k) for k in range(119)) + (read(-1),), (), ())
        self.assertEqual(search(stuck, 5000), ("more",))
        self.assertIsNone(ends(stuck, 5000))
        chain = (FIRST, stuck[1], tuple((k, k + 1) for k in range(119)), ())
        self.assertEqual(len(search(chain, 120)[1]), 120)
        self.assertEqual(search(chain, 119), ("more",))
        self.assertEqual(ends(chain, 120), [])
        self.assertIsNone(ends(chain, 119))

    def test_ends(self):
        self.assertEqual(own_list(self, ends, ((FIRST, (), (), ()), 1)), [FIRST])
        self.assertEqual(own_list(self, ends, (NO_ROW, 3)), [])
        self.assertIsNone(told_alike(self, ends, (NO_ROW, 2)))
        free = (FIRST, (write(2), write(1)), (), ())
        self.assertEqual(own_list(self, ends, (free, 5)), [ONE, TWO])
        self.assertIsNone(ends(free, 4))

    def test_ends_count_nodes_behind_a_row_too(self):
        problem = (FIRST, (write(2), write(1, "may")), (), ())
        self.assertEqual(own_list(self, ends, (problem, 5)), [ONE, TWO])
        self.assertIsNone(ends(problem, 4))
        self.assertEqual(ends((FIRST, (write(1, "may"),), (), ()), 2), [FIRST, ONE])
        self.assertIsNone(ends((FIRST, (write(1, "may"),), (), ()), 1))

    def test_as_all_rows_and_nodes_have_it(self):
        chance = random.Random(21)
        seen = {"row": 0, "stands": 0, "more": 0}
        for _ in range(250):
            problem = random_problem(chance)
            nodes = all_nodes(problem)
            rows = all_rows(problem)
            stands = sorted(set(end_of(problem, row) for row in rows))
            for most in {1, 2, max(1, len(nodes) - 1), len(nodes), len(nodes) + 1, 5000}:
                told = told_alike(self, search, (problem, most))
                seen[told[0]] += 1
                if told[0] == "row":
                    self.assertIn(told[1], rows)
                elif told[0] == "more":
                    self.assertGreater(len(nodes), most)
                else:
                    self.assertEqual(rows, [])
                    self.assertEqual(sorted(told[1]), sorted(nodes))
                    self.closed(problem, told[1])
                if not rows and len(nodes) > most:
                    self.assertEqual(told, ("more",))
                self.assertEqual(ends(problem, most), stands if len(nodes) <= most else None)
        self.assertGreater(min(seen.values()), 30)

    def closed(self, problem, nodes):
        self.assertIsNone(stands_fault(problem, nodes))
        for k in range(len(nodes)):
            self.assertIsNotNone(stands_fault(problem, nodes[:k] + nodes[k + 1:]))

    def test_no_problem(self):
        for thing in NO_PROBLEMS:
            for most in [1, 5000, None, "x"]:
                with self.assertRaises(NoProblem):
                    search(thing, most)
                with self.assertRaises(NoProblem):
                    ends(thing, most)


if __name__ == "__main__":
    unittest.main()
