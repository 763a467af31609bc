import itertools
import random
import unittest

from helper import (
    NO_PROBLEMS, ODD_THINGS, all_rows, random_problem, random_tight_problem, read, told_alike, write,
)
from storejudge.cased import cased
from storejudge.errors import NoProblem
from storejudge.papers import paper_fault
from storejudge.rings import ring_fault
from storejudge.stands import search, stands_fault
from storejudge.store import FIRST

# No row: 1, then 2, then 1 again was read, and each was written once.
NO_ROW = (FIRST, (write(1), write(2), read(1), read(2), read(1)), ((2, 3), (3, 4)), ())
# No row, and no ring either: nobody wrote the 9.
READ_NINE = (FIRST, (read(9), write(1), write(2), write(3, "may"), write(9, "out")), (), ())

NO_PAPERS = ODD_THINGS + [
    ("stands",), ("stands", [], []), ["stands", []], ("Stands", []), (b"stands", []),
    ("row", ()), ("more",), ("paper", []),
    ("ring",), ("ring", [], 0), ["ring", []], ("rings", []),
    ("cases", 0, 1, ("ring", [])), ("cases", 0, 1), ("cases",), ("cases", 0, 1, ("ring", []), ("ring", []), ()),
    ["cases", 0, 1, ("ring", []), ("ring", [])],
    ("inout", 0, ("ring", [])), ("inout",), ("inout", 0, 1, ("ring", []), ("ring", [])),
    ["inout", 3, ("ring", []), ("ring", [])],
]


def stands(problem):
    told = search(problem, 5000)
    assert told[0] == "stands"
    return told


def with_pair(problem, *pairs):
    return (problem[0], problem[1], problem[2] + pairs, problem[3])


def with_word(problem, x, word):
    items = list(problem[1])
    items[x] = items[x][:2] + (word,)
    return (problem[0], tuple(items), problem[2], problem[3])


class Papers(unittest.TestCase):
    def told(self, fault, problem, paper):
        self.assertEqual(told_alike(self, paper_fault, (problem, paper)), fault)


class Kinds(Papers):
    """[25], [26]: papers of each kind."""

    def test_stands(self):
        paper = stands(NO_ROW)
        self.told(None, NO_ROW, paper)
        self.told(None, NO_ROW, ("stands", tuple(paper[1])))
        self.told(((), "first"), NO_ROW, ("stands", paper[1][1:]))
        self.told(((), "form", 0), NO_ROW, ("stands", None))
        self.told(((), "form", 1), NO_ROW, ("stands", [paper[1][0], "x"]))
        self.told(((), "next", 0, 0), NO_ROW, ("stands", paper[1][:1]))
        self.told(((), "last", 0), (FIRST, (), (), ()), ("stands", [((), FIRST)]))

    def test_ring(self):
        problem = (FIRST, (read(5), write(5)), ((0, 1),), ())
        ring = [(0, 1, ("told",)), (1, 0, ("only", 0)), (0, 0, ("through", 1))]
        self.told(None, problem, ("ring", ring))
        self.told(None, problem, ("ring", tuple(ring)))
        self.told(((), "open"), problem, ("ring", []))
        self.told(((), "open"), problem, ("ring", ring[:-1]))
        self.told(((), "step", 1), problem, ("ring", [ring[0], ring[2], ring[1]]))
        self.told(((), "form", 0), problem, ("ring", "ring"))
        self.told(((), "form", 2), problem, ("ring", ring[:-1] + [None]))

    def test_cases(self):
        one = stands(with_pair(NO_ROW, (0, 1)))
        two = stands(with_pair(NO_ROW, (1, 0)))
        self.told(None, NO_ROW, ("cases", 0, 1, one, two))
        self.told(None, NO_ROW, ("cases", 1, 0, two, one))
        self.told(None, NO_ROW, ("cases", 1, 0, stands(NO_ROW), stands(NO_ROW)))
        self.assertEqual(paper_fault(NO_ROW, ("cases", 0, 1, two, one))[0], ("one",))
        self.assertEqual(paper_fault(NO_ROW, ("cases", 0, 1, one, one))[0], ("two",))

    def test_cases_by_rings(self):
        problem = (FIRST, (write(1), write(2), read(1), read(2)), ((3, 2), (2, 3)), ())
        ring = ("ring", [(2, 3, ("told",)), (3, 2, ("told",)), (2, 2, ("through", 3))])
        for x, y in itertools.permutations(range(4), 2):
            self.told(None, problem, ("cases", x, y, ring, ring))
        free = (FIRST, (write(1), write(2), write(3)), (), ())
        own = [(0, 1, ("told",)), (1, 0, ("told",)), (0, 0, ("through", 1))]
        self.told((("one",), "step", 1), free, ("cases", 0, 1, ("ring", own), ("ring", own)))
        half = with_pair(free, (1, 0))
        self.told((("two",), "step", 0), half, ("cases", 0, 1, ("ring", own), ("ring", own)))

    def test_inout(self):
        # With item 1 a must there is a ring; without it nobody wrote the 5.
        problem = (FIRST, (read(5), write(5, "may"), write(6)), ((1, 2), (2, 0)), ())
        inside = with_word(problem, 1, "must")
        outside = with_word(problem, 1, "out")
        self.told(None, problem, ("inout", 1, stands(inside), stands(outside)))
        self.assertIsNotNone(paper_fault(problem, stands(outside)))
        ring = ("ring", [(1, 0, ("only", 0)), (2, 0, ("told",)), (1, 2, ("told",)), (0, 2, ("late", 0, 1)),
                         (0, 0, ("through", 2))])
        self.told(None, inside, ring)
        self.told(None, problem, ("inout", 1, ring, stands(outside)))
        self.told((("two",), "step", 0), problem, ("inout", 1, ring, ring))

    def test_inout_makes_a_must_or_an_out(self):
        problem = (FIRST, (write(1, "may"), write(2)), ((0, 1), (1, 0)), ())
        ring = ("ring", [(0, 1, ("told",)), (1, 0, ("told",)), (0, 0, ("through", 1))])
        self.told(((), "step", 0), problem, ring)
        self.told((("two",), "step", 0), problem, ("inout", 0, ring, ring))
        self.told((("two",), "next", 0, 1), problem, ("inout", 0, ring, ("stands", [((), FIRST)])))
        within = ("inout", 0, ("stands", [((), FIRST)]), ring)
        self.told((("one",), "next", 0, 0), (FIRST, problem[1], ((0, 1),), ()), within)


class Faults(Papers):
    """[26]: which fault is told, and its path."""

    GOOD = stands(READ_NINE)

    def nested(self, path, leaf):
        """Cases of the musts 1 and 2, one within another, the leaf at the path, good papers elsewhere."""
        paper = leaf
        for word in reversed(path):
            paper = ("cases", 1, 2, paper, self.GOOD) if word == "one" else ("cases", 1, 2, self.GOOD, paper)
        return paper

    def test_no_paper(self):
        for thing in NO_PAPERS:
            self.told(((), "form"), NO_ROW, thing)
            self.told((("one",), "form"), NO_ROW, ("cases", 0, 1, thing, stands(NO_ROW)))
            self.told((("two",), "form"), NO_ROW, ("cases", 0, 1, stands(NO_ROW), thing))

    def test_case_of_cases(self):
        wrong = [(1, 1), (0, 3), (3, 0), (0, 4), (4, 0), (0, 5), (-1, 0), (0, -1), (True, 0), (0, True), (None, 0),
                 ("0", 1), (0, []), ({}, 0), ((0,), 1)]
        for x, y in wrong:
            self.told(((), "case"), READ_NINE, ("cases", x, y, self.GOOD, self.GOOD))
            self.told(((), "case"), READ_NINE, ("cases", x, y, None, None))
        for x, y in itertools.permutations(range(3), 2):
            self.told(None, READ_NINE, ("cases", x, y, self.GOOD, self.GOOD))

    def test_case_of_inout(self):
        out = stands(with_word(READ_NINE, 3, "out"))
        for x in [0, 1, 2, 4, 5, -1, True, None, "3", [], (3,), {}]:
            self.told(((), "case"), READ_NINE, ("inout", x, self.GOOD, out))
            self.told(((), "case"), READ_NINE, ("inout", x, None, None))
        self.told(None, READ_NINE, ("inout", 3, stands(with_word(READ_NINE, 3, "must")), out))

    def test_words_change_within(self):
        # Behind the inout item 3 is a must, or out, and no may any more.
        good = stands(with_word(READ_NINE, 3, "must"))
        out = stands(with_word(READ_NINE, 3, "out"))
        self.told(None, READ_NINE, ("inout", 3, ("cases", 3, 1, good, good), out))
        self.told((("two",), "case"), READ_NINE, ("inout", 3, good, ("cases", 3, 1, out, out)))
        self.told((("one",), "case"), READ_NINE, ("inout", 3, ("inout", 3, good, out), out))
        self.told((("two",), "case"), READ_NINE, ("inout", 3, good, ("inout", 3, good, out)))

    def test_itself_then_one_then_two(self):
        bad = ("ring", [])
        self.told(((), "case"), READ_NINE, ("cases", 1, 1, bad, bad))
        self.told((("one",), "open"), READ_NINE, ("cases", 1, 2, bad, None))
        self.told((("two",), "form"), READ_NINE, ("cases", 1, 2, self.GOOD, None))
        within = ("cases", 1, 2, self.GOOD, bad)
        self.told((("one", "two"), "open"), READ_NINE, ("cases", 1, 2, within, None))
        self.told((("two", "two"), "open"), READ_NINE, ("cases", 1, 2, self.GOOD, within))
        self.told((("one",), "case"), READ_NINE, ("cases", 1, 2, ("cases", 1, 3, None, None), bad))

    def test_paths(self):
        for length in range(13):
            for path in [("one",) * length, ("two",) * length, tuple(["one", "two"] * 6)[:length]]:
                self.told(None, READ_NINE, self.nested(path, self.GOOD))
                self.told((path, "open"), READ_NINE, self.nested(path, ("ring", ())))
                self.told((path, "form"), READ_NINE, self.nested(path, None))

    def test_twelve_deep_and_beyond(self):
        for path in [("one",) * 12, ("two",) * 12, ("two", "one") * 6]:
            self.told((path, "form"), READ_NINE, self.nested(path, ("cases", 1, 2, self.GOOD, self.GOOD)))
            self.told((path, "form"), READ_NINE, self.nested(path, ("cases", 1, 1, None, None)))
            self.told((path, "form"), READ_NINE, self.nested(path, ("inout", 3, self.GOOD, self.GOOD)))
            self.told((path, "form"), READ_NINE, self.nested(path + path, self.GOOD))
            inner = path[:-1]
            self.told(None, READ_NINE, self.nested(inner, ("cases", 1, 2, self.GOOD, self.GOOD)))
            self.told((inner, "case"), READ_NINE, self.nested(inner, ("cases", 1, 1, self.GOOD, self.GOOD)))

    def test_no_problem(self):
        for thing in NO_PROBLEMS:
            for paper in [("ring", []), ("stands", []), None, (), "x"]:
                with self.assertRaises(NoProblem):
                    paper_fault(thing, paper)


def small_problems():
    """All problems of two or three of these items, with few pairs."""
    some = [write(1), write(2, "may"), read(0), read(1), read(2), (("add", 0, 1), ("got", 2), "must"),
            (("swap", 0, 1, 2), None, "may")]
    for count in (2, 3):
        for items in itertools.combinations_with_replacement(some, count):
            for before in [(), ((0, 1),), ((1, 0),), ((0, 1), (1, 0)), ((count - 1, 0),)]:
                yield (FIRST, items, before, ())


class NoRows(Papers):
    """[28]: where a paper has no fault the problem has no row, whoever wrote the paper."""

    def pool(self, problems):
        """The papers that cases tell of these problems, each once."""
        papers = {}
        for problem in problems:
            for deep in range(3):
                told = cased(problem, deep, 5000)
                if told[0] == "paper":
                    papers[repr(told[1])] = told[1]
        return list(papers.values())

    def test_all_small_problems(self):
        problems = list(small_problems())
        papers = self.pool(problems[::7])
        fitting = 0
        for problem in problems:
            rows = all_rows(problem)
            for paper in papers:
                if paper_fault(problem, paper) is None:
                    self.assertEqual(rows, [], (problem, paper))
                    fitting += 1
            told = cased(problem, 2, 5000)
            self.assertEqual(told[0], "row" if rows else "paper")
        self.assertGreater(fitting, 500)

    def test_other_problems_papers(self):
        chance = random.Random(28)
        problems = [random_tight_problem(chance) for _ in range(150)] + [random_problem(chance) for _ in range(50)]
        papers = self.pool(problems)
        for problem in problems:
            rows = all_rows(problem)
            for paper in papers if rows else []:
                self.assertIsNotNone(paper_fault(problem, paper), (problem, paper))

    def test_leaves_tell_what_their_own_faults_tell(self):
        chance = random.Random(26)
        for _ in range(200):
            problem = random_tight_problem(chance)
            nodes = [((), problem[0]), ((0,), problem[0])][:chance.randrange(3)]
            steps = [(0, 1, ("told",)), (1, 0, ("told",)), (1, 1, ("through", 0))][:chance.randrange(4)]
            for paper, fault in [(("stands", nodes), stands_fault(problem, nodes)),
                                 (("ring", steps), ring_fault(problem, steps))]:
                self.told(None if fault is None else ((),) + fault, problem, paper)


if __name__ == "__main__":
    unittest.main()
