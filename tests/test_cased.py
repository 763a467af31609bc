import random
import unittest

from helper import NO_PROBLEMS, all_rows, random_problem, random_tight_problem, read, told_alike, write
from storejudge.cased import cased
from storejudge.errors import NoProblem
from storejudge.forced import forced
from storejudge.papers import paper_fault
from storejudge.rows import row_fault
from storejudge.stands import search
from storejudge.store import FIRST


def by_the_words(problem, deep, most):
    """[27], word by word."""
    told = forced(problem)
    if told[0] == "ring":
        return ("paper", told)
    items = problem[1]
    mays = [x for x in range(len(items)) if items[x][2] == "may"]
    musts = [x for x in range(len(items)) if items[x][2] == "must"]
    free = [(x, y) for x in musts for y in musts if x < y and (x, y) not in told[1] and (y, x) not in told[1]]
    if deep == 0 or not mays and not free:
        found = search(problem, most)
        return ("paper", found) if found[0] == "stands" else found
    if mays:
        x = mays[0]
        case = ("inout", x)
        parts = [(problem[0], items[:x] + (items[x][:2] + (word,),) + items[x + 1:]) + problem[2:]
                 for word in ("must", "out")]
    else:
        case = ("cases",) + min(free)
        parts = [problem[:2] + (problem[2] + (pair,), problem[3]) for pair in (min(free), min(free)[::-1])]
    papers = []
    for part in parts:
        found = by_the_words(part, deep - 1, most)
        if found[0] != "paper":
            return found
        papers.append(found[1])
    return ("paper", case + tuple(papers))


def kinds_in(paper):
    if paper[0] in ("stands", "ring"):
        return {paper[0]}
    return {paper[0]} | kinds_in(paper[-2]) | kinds_in(paper[-1])


class Cased(unittest.TestCase):
    """[27]: by cases."""

    def paper(self, problem, deep, most):
        told = told_alike(self, cased, (problem, deep, most))
        self.assertEqual(told[0], "paper")
        self.assertEqual(len(told), 2)
        self.assertIsNone(paper_fault(problem, told[1]))
        return told[1]

    # No row: 1, then 2, then 1 again was read, and each was written once.
    TWISTED = (FIRST, (write(1), write(2), read(1), read(2), read(1)), ((2, 3), (3, 4)), ())
    # No row, and no ring either: nobody wrote the 9.
    FREE = (FIRST, (write(1), write(1), read(9), write(2)), (), ())

    def test_a_ring_at_any_depth(self):
        for deep in range(13):
            for most in (1, 5000):
                self.assertEqual(self.paper(self.TWISTED, deep, most), forced(self.TWISTED))

    def test_rows(self):
        problem = (FIRST, (read(2), write(1), write(2, "may"), write(9, "out")), (), ())
        for deep in (0, 1, 2, 5, 12):
            told = told_alike(self, cased, (problem, deep, 100))
            self.assertEqual(told[0], "row")
            self.assertIsInstance(told[1], tuple)
            self.assertIsNone(row_fault(problem, told[1]))
        self.assertEqual(cased((FIRST, (), (), ()), 0, 1), ("row", ()))
        self.assertEqual(cased((FIRST, (), (), ()), 12, 1), ("row", ()))

    def test_deep_nought_is_a_search(self):
        self.assertEqual(forced(self.FREE)[0], "pairs")
        self.assertEqual(self.paper(self.FREE, 0, 5000), search(self.FREE, 5000))
        count = len(search(self.FREE, 5000)[1])
        self.assertEqual(self.paper(self.FREE, 0, count)[0], "stands")
        self.assertEqual(told_alike(self, cased, (self.FREE, 0, count - 1)), ("more",))

    def test_parted_by_musts(self):
        # The read of 9 is forced ahead of all writes: so the writes alone are to be parted.
        paper = self.paper(self.FREE, 1, 5000)
        self.assertEqual(paper[:3], ("cases", 0, 1))
        self.assertEqual((paper[3][0], paper[4][0]), ("stands", "stands"))
        paper = self.paper(self.FREE, 2, 5000)
        self.assertEqual((paper[3][:3], paper[4][:3]), (("cases", 0, 3), ("cases", 0, 3)))
        self.assertEqual(kinds_in(self.paper(self.FREE, 12, 5000)), {"cases", "stands"})

    def test_parted_by_mays_first(self):
        items = (write(1), write(2), write(3, "may"), read(9), write(4, "may"))
        problem = (FIRST, items, (), ())
        paper = self.paper(problem, 3, 5000)
        self.assertEqual(paper[:2], ("inout", 2))
        self.assertEqual((paper[2][:2], paper[3][:2]), (("inout", 4), ("inout", 4)))
        # The third is of musts: one more of them where item 2 is in.
        self.assertEqual(paper[2][2][:3], ("cases", 0, 1))
        self.assertEqual(paper[3][3][:3], ("cases", 0, 1))

    def test_nothing_to_part(self):
        ordered = (FIRST, (write(1), write(2), read(9)), ((0, 1),), ())
        for deep in (0, 1, 12):
            self.assertEqual(self.paper(ordered, deep, 100), search(ordered, 100))
            self.assertEqual(cased(ordered, deep, 1), ("more",))

    def test_cases_need_fewer_nodes_at_once(self):
        count = len(search(self.FREE, 5000)[1])
        self.assertEqual(cased(self.FREE, 0, count - 1), ("more",))
        self.assertEqual(self.paper(self.FREE, 3, count - 1)[0], "cases")
        self.assertEqual(cased(self.FREE, 3, 1), ("more",))

    def test_lists_are_the_askers_own(self):
        told = cased(self.FREE, 0, 5000)
        kept = list(told[1][1])
        told[1][1].clear()
        self.assertEqual(cased(self.FREE, 0, 5000), ("paper", ("stands", kept)))

    def test_as_the_words_have_it(self):
        chance = random.Random(27)
        seen = {}
        for number in range(500):
            problem = random_problem(chance) if number % 2 else random_tight_problem(chance, 5)
            deep = chance.randrange(6)
            most = chance.choice([1, 2, 3, 5, 8, 5000])
            told = told_alike(self, cased, (problem, deep, most))
            self.assertEqual(told, by_the_words(problem, deep, most))
            rows = all_rows(problem)
            if told[0] == "row":
                self.assertIn(told[1], rows)
            elif told[0] == "paper":
                self.assertEqual(rows, [])
                self.assertIsNone(paper_fault(problem, told[1]))
                for kind in kinds_in(told[1]):
                    seen[kind] = seen.get(kind, 0) + 1
            else:
                self.assertLess(most, 5000)
            seen[told[0]] = seen.get(told[0], 0) + 1
        for kind in ("row", "paper", "more", "stands", "ring", "cases", "inout"):
            self.assertGreater(seen.get(kind, 0), 8, seen)

    def test_no_problem(self):
        for thing in NO_PROBLEMS:
            for deep, most in [(0, 1), (12, 5000), (None, None), ("x", -1)]:
                with self.assertRaises(NoProblem):
                    cased(thing, deep, most)


if __name__ == "__main__":
    unittest.main()
