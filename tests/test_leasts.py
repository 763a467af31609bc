import itertools
import random
import unittest

from helper import (
    KEEPS, NO_PROBLEMS, all_nodes, all_rows, did_read, did_write, is_row, random_history, random_problem,
    random_tight_problem, read, told_alike, write,
)
from storejudge.asides import aside
from storejudge.errors import NoProblem
from storejudge.leasts import least
from storejudge.promises import problems_of
from storejudge.rows import row_fault
from storejudge.store import FIRST


def musts_of(problem):
    return [x for x, item in enumerate(problem[1]) if item[2] == "must"]


def lots_of(things):
    return [lot for length in range(len(things) + 1) for lot in itertools.combinations(things, length)]


def greatest(problem):
    """The most nodes that can be come to, of the problem and of it with any of its musts set aside."""
    return max(len(all_nodes(aside(problem, lot))) for lot in lots_of(musts_of(problem)))


def least_lots(problem):
    """All least lots: without row, and with one as soon as any one of them is set aside."""
    musts = musts_of(problem)

    def has_row(held):
        return len(all_rows(aside(problem, [x for x in musts if x not in held]))) > 0

    told = []
    for lot in lots_of(musts):
        if not has_row(lot) and all(has_row([x for x in lot if x != one]) for one in lot):
            told.append(lot)
    return told


def random_ordered_problem(chance):
    """Five writes and reads with many pairs: so that least lots have two and three items too."""
    items = tuple(chance.choice([write, read])(chance.choice([0, 0, 1, 2]), "must", chance.randrange(2))
                  for _ in range(5))
    return (FIRST, items, tuple(tuple(chance.sample(range(5), 2)) for _ in range(7)), ())


class Least(unittest.TestCase):
    """[40]."""

    def holds(self, problem, most=5000):
        """What is told, held against the words of [40] but for that there is no row."""
        told = told_alike(self, least, (problem, most))
        self.assertIsInstance(told, tuple)
        if told[0] == "row":
            self.assertEqual(len(told), 2)
            self.assertIsInstance(told[1], tuple)
            self.assertTrue(is_row(problem, told[1]))
        elif told[0] == "least":
            _, held, rows = told
            self.assertIsInstance(held, tuple)
            self.assertEqual(held, tuple(sorted(set(held))))
            self.assertTrue(set(held) <= set(musts_of(problem)))
            self.assertIsInstance(rows, list)
            self.assertEqual(len(rows), len(held))
            for one, row in zip(held, rows):
                freed = aside(problem, [x for x in musts_of(problem) if x not in held or x == one])
                self.assertIsInstance(row, tuple)
                self.assertIsNone(row_fault(freed, row))
                self.assertTrue(is_row(freed, row))
        else:
            self.assertEqual(told, ("more",))
        return told

    def one_of(self, lots, *items, before=(), apart=()):
        problem = (FIRST, items, before, apart)
        self.assertEqual(least_lots(problem), lots)
        self.assertIn(self.holds(problem)[1], lots)

    def test_with_a_row(self):
        self.assertEqual(least((FIRST, (), (), ()), 1), ("row", ()))
        self.assertEqual(self.holds((FIRST, (read(5), write(5)), (), ())), ("row", (1, 0)))
        self.assertEqual(self.holds((FIRST, (read(5, "out"),), (), ())), ("row", ()))
        self.assertEqual(self.holds((FIRST, (read(5, "may"),), (), ()))[0], "row")
        self.assertEqual(self.holds((FIRST, (read(5), write(5, "may")), (), ())), ("row", (1, 0)))

    def test_one_least_lot(self):
        self.one_of([(0,)], read(5))
        self.one_of([(1,)], write(4), read(5), read(4))
        self.one_of([(0,)], read(5), write(5), before=((0, 1),))
        self.one_of([(0, 1)], read(0), write(5), before=((1, 0),))
        self.one_of([(0, 2)], read(0), read(0), write(3), before=((2, 0),))
        self.one_of([(0, 1, 2)], write(3), read(0, key=0), (("lay", ((1, 2),)), ("done",), "must"),
                    before=((0, 2), (2, 1)))

    def test_more_least_lots(self):
        self.one_of([(0,), (1,)], read(5), read(6))
        self.one_of([(0, 2), (1, 2)], read(0), read(0), write(3), before=((2, 0), (2, 1)))
        self.one_of([(0, 1), (0, 2), (1, 2)], write(1), write(1), write(1), before=((0, 1), (1, 0), (0, 2), (2, 0),
                                                                                      (1, 2), (2, 1)))

    def test_mays_and_outs(self):
        self.one_of([(1,)], write(5, "out"), read(5))
        self.one_of([(0, 2)], read(0), write(3, "may"), write(4), before=((2, 0),))
        self.one_of([(0, 1)], read(5), read(6), write(5, "may"), write(6, "may"), before=((2, 3), (0, 3), (1, 0)))

    def test_no_answer_and_refused(self):
        self.one_of([(0,)], (("read", 0), ("refused",), "must"), write(1))
        self.one_of([(0, 1)], (("add", 0, 1), None, "must"), read(0), before=((0, 1),))

    def test_triples(self):
        # The write is to come between the two that nothing may part.
        self.one_of([(0, 1, 2)], write(1), write(2), write(3), before=((0, 2), (2, 1)), apart=((0, 1, 2),))
        self.one_of([(0, 1, 3)], write(1), write(2), write(3, "may"), read(3), before=((0, 2), (3, 1)),
                    apart=((0, 1, 2),))

    def test_a_ring_of_pairs(self):
        items = tuple(write(x) for x in range(4))
        self.one_of([(0, 1, 2)], *items, before=((0, 1), (1, 2), (2, 0), (2, 3)))
        self.one_of([(0, 1, 2, 3)], *items, before=((0, 1), (1, 2), (2, 3), (3, 0)))

    def test_many_problems(self):
        chance = random.Random(40)
        counts = {}
        for _ in range(600):
            problem = chance.choice([random_problem, random_tight_problem, random_ordered_problem])(chance)
            told = self.holds(problem)
            self.assertNotEqual(told[0], "more")
            if all_rows(problem):
                self.assertEqual(told[0], "row")
            else:
                self.assertEqual(told[0], "least")
                held = told[1]
                self.assertEqual(all_rows(aside(problem, [x for x in musts_of(problem) if x not in held])), [])
                counts[len(held)] = counts.get(len(held), 0) + 1
        self.assertGreater(min(counts.get(size, 0) for size in (1, 2, 3)), 3, counts)

    def test_any_lot_of_the_held_ones_set_aside(self):
        chance = random.Random(401)
        for _ in range(200):
            problem = random_tight_problem(chance)
            told = self.holds(problem)
            if told[0] == "least":
                self.assertIn(told[1], least_lots(problem))

    def test_more_only_as_told(self):
        chance = random.Random(402)
        seen = 0
        for number in range(150):
            problem = random_problem(chance) if number % 2 else random_tight_problem(chance)
            bound = greatest(problem)
            for most in {1, 2, 4, 8, max(bound - 1, 1), bound, bound + 1}:
                told = self.holds(problem, most)
                if told == ("more",):
                    self.assertGreater(bound, most)
                    seen += 1
                elif told[0] == "least":
                    self.assertIn(told[1], least_lots(problem))
                else:
                    self.assertEqual(told[0], "row")
        self.assertGreater(seen, 50)

    def test_more(self):
        # Eight writes in any order ahead of a read of what none wrote.
        items = tuple(write(x) for x in range(1, 9)) + (read(9),)
        problem = (FIRST, items, tuple((x, 8) for x in range(8)), ())
        self.assertEqual(least(problem, 20), ("more",))
        self.assertEqual(self.holds(problem, 5000)[1], (8,))

    def test_what_hangs_on_nothing_does_not_count(self):
        # Each of these might come or not, and in any order; none has anything to do with the reads on key 7.
        deal = ("deal", (("write", 1, 4), ("write", 2, 4)))
        idle = [(("lay", ((key, 4),)), None, "may") for key in range(5)] + [(deal, None, "may")] * 3
        idle += [read(3, "may", 7)] * 3 + [(("look", ("add", 7, 1)), ("got", 8), "may")] * 3
        idle += [write(x, "may", 3) for x in range(5)] + [(("add", 3, 2), ("got", 2), "may")]
        asked = [read(9, key=7), (("deal", (("write", 1, 5), ("read", 7))), ("each", (("done",), ("got", 0))), "must")]
        problem = (FIRST, tuple(idle + asked + [write(5, "may", 7)]), (), ())
        self.assertEqual(self.holds(problem, 40), ("least", (len(idle),), [(len(idle) + 1,)]))

    def test_problems_of_histories(self):
        for history, kept in KEEPS:
            for promise in ("real", "row", "any", "snap", "stand", "hand", "thing", "kept"):
                words = [self.holds(problem)[0] for _, problem in problems_of(history, promise)]
                self.assertEqual("least" not in words, promise in kept)
                self.assertNotIn("more", words)

    def test_a_stale_read_among_many(self):
        chance = random.Random(403)
        for _ in range(5):
            told = random_history(chance, 4, 20, keys=4)
            time = max(time for deed in told for time in deed[1:3] if time is not None)
            history = told + (did_write(4, time + 1, time + 2, 7, 6), did_read(4, time + 3, time + 4, 0, 6))
            problem = problems_of(history, "real")[0][1]
            answer = self.holds(problem)
            self.assertEqual(answer[0], "least")
            self.assertEqual([problem[1][x][0] for x in answer[1]], [("write", 6, 7), ("read", 6)])

    def test_the_list_is_the_askers_own(self):
        problem = (FIRST, (read(0), write(5)), ((1, 0),), ())
        told = least(problem, 100)
        told[2].clear()
        self.assertEqual(len(least(problem, 100)[2]), 2)

    def test_no_problem(self):
        for thing in NO_PROBLEMS:
            with self.assertRaises(NoProblem, msg=thing):
                least(thing, 100)


if __name__ == "__main__":
    unittest.main()
