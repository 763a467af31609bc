import random
import unittest

from helper import ANSWERS, NO_PROBLEMS, ODD_THINGS, own_list, random_problem, told_alike
from storejudge.errors import JudgeError, NoProblem
from storejudge.problems import behind, is_problem, may_come
from storejudge.store import FIRST, done

READ = ("read", 0)
MUST = (READ, None, "must")
MAY = (READ, None, "may")
OUT = (READ, None, "out")


class Form(unittest.TestCase):
    """[12]: which things are problems."""

    def holds(self, right, thing):
        self.assertIs(told_alike(self, is_problem, (thing,)), right, thing)

    def test_problems(self):
        self.holds(True, (FIRST, (), (), ()))
        self.holds(True, ((5,) * 8, (MUST, MAY, OUT), ((0, 1), (2, 0), (0, 1)), ()))
        self.holds(True, (FIRST, (MUST, MUST, MAY, OUT), (), ((0, 1, 2), (1, 0, 3), (0, 1, 2))))

    def test_no_problems(self):
        for thing in NO_PROBLEMS:
            self.holds(False, thing)

    def test_items(self):
        for step, answers in ANSWERS:
            for answer in answers + [None]:
                for word in ("must", "may", "out"):
                    self.holds(True, (FIRST, ((step, answer, word),), (), ()))
            self.holds(step[0] not in ("look", "lay"), (FIRST, ((step, ("refused",), "must"),), (), ()))
            self.holds(False, (FIRST, ((step, ("other",), "must"),), (), ()))
            self.holds(False, (FIRST, ([step, None, "must"],), (), ()))
            self.holds(False, (FIRST, ((step, None, "must", 0),), (), ()))
            self.holds(False, (FIRST, ((step, None),), (), ()))
        for word in ("", "Must", "musts", None, 1, True, ("must",), b"must", []):
            self.holds(False, (FIRST, ((READ, None, word),), (), ()))
        for thing in ODD_THINGS:
            self.holds(False, (FIRST, (thing,), (), ()))
            self.holds(False, (FIRST, (MUST, (thing, None, "must")), (), ()))

    def test_bounds(self):
        self.holds(True, (FIRST, (MUST,) * 120, (), ()))
        self.holds(False, (FIRST, (MUST,) * 121, (), ()))
        self.holds(True, (FIRST, (MUST,) * 2, ((0, 1),) * 4000, ()))
        self.holds(False, (FIRST, (MUST,) * 2, ((0, 1),) * 4001, ()))
        self.holds(True, (FIRST, (MUST,) * 3, (), ((0, 1, 2),) * 4000))
        self.holds(False, (FIRST, (MUST,) * 3, (), ((0, 1, 2),) * 4001))

    def test_numbers_of_pairs(self):
        for pair in [(0, 1), (1, 0), (0, 2), (2, 1)]:
            self.holds(True, (FIRST, (MUST, MAY, OUT), (pair,), ()))
        for pair in [(0, 0), (0, 3), (3, 0), (-1, 0), (0, -1), (False, 1), (0, True), (0,), (0, 1, 2), [0, 1], (0, None),
                     ("0", 1), 0, None, ([], 0)]:
            self.holds(False, (FIRST, (MUST, MAY, OUT), (pair,), ()))
            self.holds(False, (FIRST, (MUST, MAY, OUT), ((0, 1), pair), ()))

    def test_numbers_of_triples(self):
        items = (MUST, MUST, MAY, OUT)
        for triple in [(0, 1, 2), (1, 0, 2), (0, 1, 3)]:
            self.holds(True, (FIRST, items, (), (triple,)))
        self.holds(True, (FIRST, (MUST,) * 3, (), ((0, 1, 2),)))
        for triple in [(0, 2, 1), (2, 0, 1), (0, 3, 1), (3, 0, 1), (0, 0, 2), (0, 1, 0), (0, 1, 1), (0, 1, 4), (4, 1, 2),
                       (0, 4, 2), (-1, 1, 2), (0, 1, -1), (False, 1, 2), (0, True, 2), (0, 1), (0, 1, 2, 3), [0, 1, 2],
                       None, (0, 1, None)]:
            self.holds(False, (FIRST, items, (), (triple,)))
            self.holds(False, (FIRST, items, (), ((0, 1, 2), triple)))


class Asked(unittest.TestCase):
    """[12]: what is no problem is refused wherever a problem is asked."""

    def test_refused_whatever_comes_with_it(self):
        for thing in NO_PROBLEMS:
            for placed in [(), [], (0,), None, "x", 3]:
                with self.assertRaises(NoProblem) as caught:
                    may_come(thing, placed)
                self.assertIsInstance(caught.exception, JudgeError)
            for stand, item in [(FIRST, 0), (None, None), ("x", -1)]:
                with self.assertRaises(NoProblem):
                    behind(thing, stand, item)


def by_the_words(problem, placed):
    """[14], word by word."""
    _, items, before, apart = problem
    told = []
    for x in range(len(items)):
        if x in placed or items[x][2] == "out":
            continue
        held = [y for y, other in before if other == x and items[y][2] == "must" and y not in placed]
        late = [z for other, z in before if other == x and z in placed]
        torn = [a for a, b, other in apart if other == x and a in placed and b not in placed]
        if not held and not late and not torn:
            told.append(x)
    return told


class MayCome(unittest.TestCase):
    """[14]: what may come next."""

    def told(self, expected, problem, placed):
        for form in (tuple(placed), list(placed), tuple(placed[::-1]), list(placed[::-1])):
            self.assertEqual(own_list(self, may_come, (problem, form)), expected)

    def test_neither_placed_nor_out(self):
        problem = (FIRST, (MUST, MAY, OUT, MUST), (), ())
        self.told([0, 1, 3], problem, [])
        self.told([1, 3], problem, [0])
        self.told([0], problem, [1, 3])
        self.told([], problem, [3, 0, 1])
        self.told([], (FIRST, (), (), ()), [])

    def test_pairs(self):
        problem = (FIRST, (MUST, MUST, MAY, MUST), ((0, 1), (2, 3), (1, 2), (0, 1)), ())
        self.told([0, 3], problem, [])
        self.told([1, 3], problem, [0])
        self.told([2, 3], problem, [0, 1])
        self.told([3], problem, [0, 1, 2])
        self.told([], problem, [0, 1, 3])

    def test_an_out_or_a_may_ahead_holds_nothing_back(self):
        problem = (FIRST, (OUT, MAY, MUST), ((0, 2), (1, 2)), ())
        self.told([1, 2], problem, [])
        self.told([], problem, [2])

    def test_what_should_stand_ahead_of_a_placed_one_comes_no_more(self):
        problem = (FIRST, (MUST, MAY, MUST), ((0, 2), (1, 2)), ())
        self.told([], problem, [2, 0])
        self.told([2], problem, [0, 1])
        self.told([], (FIRST, (MUST, MUST), ((0, 1),), ()), [1])
        self.told([1], (FIRST, (MUST, MAY, MUST), ((0, 2),), ()), [2])

    def test_triples(self):
        problem = (FIRST, (MUST, MUST, MUST, MAY), (), ((0, 1, 2), (1, 0, 3)))
        self.told([0, 1, 2, 3], problem, [])
        self.told([1, 3], problem, [0])
        self.told([0, 2], problem, [1])
        self.told([2, 3], problem, [0, 1])
        self.told([0, 1, 3], problem, [2])

    def test_by_the_words(self):
        chance = random.Random(14)
        for _ in range(400):
            problem = random_problem(chance)
            numbers = range(len(problem[1]))
            placed = chance.sample(numbers, chance.randrange(len(numbers) + 1))
            self.told(by_the_words(problem, placed), problem, placed)


class Behind(unittest.TestCase):
    """[14]: the stand behind an item."""

    STAND = (4, 5, 6, 7, 0, 0, 0, 0)

    def told(self, expected, step, answer):
        for word in ("must", "may"):
            problem = (FIRST, (MUST, (step, answer, word)), (), ())
            self.assertEqual(told_alike(self, behind, (problem, self.STAND, 1)), expected)

    def test_without_an_answer(self):
        for step, _ in ANSWERS:
            self.told(done(self.STAND, step)[1], step, None)

    def test_with_an_answer(self):
        self.told(self.STAND, ("read", 0), ("got", 4))
        self.told(None, ("read", 0), ("got", 5))
        self.told((9,) + self.STAND[1:], ("write", 0, 9), ("done",))
        self.told((9,) + self.STAND[1:], ("add", 0, 5), ("got", 9))
        self.told(None, ("add", 0, 5), ("got", 5))
        self.told((9,) + self.STAND[1:], ("swap", 0, 4, 9), ("yes",))
        self.told(None, ("swap", 0, 4, 9), ("no",))
        self.told(self.STAND, ("swap", 0, 5, 9), ("no",))
        self.told(None, ("span", 0, 2), ("all", (4, 4)))
        self.told(self.STAND, ("look", ("add", 0, 5)), ("got", 9))
        self.told((9,) + self.STAND[1:], ("deal", (("write", 0, 9), READ)), ("each", (("done",), ("got", 9))))
        self.told(None, ("deal", (("write", 0, 9), READ)), ("each", (("done",), ("got", 4))))

    def test_a_refused_one_can_not_come(self):
        self.told(None, ("write", 0, 9), ("refused",))
        self.told(None, ("read", 0), ("refused",))


if __name__ == "__main__":
    unittest.main()
