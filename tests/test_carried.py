import itertools
import random
import unittest

from helper import ODD_THINGS, all_rows, own_list, random_history
from storejudge.calls import left_by
from storejudge.carried import carried, implies
from storejudge.errors import JudgeError, NoHistory, NoProblem, NoPromise
from storejudge.promises import PROMISES, deeds_of, problems_of
from storejudge.rows import row_fault
from storejudge.verdicts import judged

IMPLIED = {
    "real": PROMISES,
    "row": ("row", "any", "snap", "stand", "hand", "kept"),
    "any": ("any", "snap", "stand", "kept"),
    "snap": ("snap", "stand", "kept"),
    "stand": ("stand",),
    "hand": ("hand",),
    "thing": ("thing", "kept"),
    "kept": ("kept",),
}
PAIRS = [(strong, weak) for strong in PROMISES for weak in IMPLIED[strong]]
ADD = ("add", 0, 1)


class Implies(unittest.TestCase):
    """[34]: which promise implies which."""

    def test_all_pairs(self):
        for strong, weak in itertools.product(PROMISES, PROMISES):
            self.assertIs(implies(strong, weak), weak in IMPLIED[strong], (strong, weak))

    def test_no_promise(self):
        for thing in ODD_THINGS + ["Real", "keep", ["real"], ("real",)]:
            for asked in [(thing, "real"), ("real", thing), (thing, thing), ("kept", thing)]:
                with self.assertRaises(NoPromise) as caught:
                    implies(*asked)
                self.assertIsInstance(caught.exception, JudgeError)


def carried_by_the_words(history, strong, rows, weak):
    """[35], word by word."""
    problems = problems_of(history, strong)
    deeds = deeds_of(history, strong)
    if strong == weak or (strong, weak) == ("snap", "stand"):
        return [tuple(row) for row in rows]
    told = []
    for (name, problem), takers in zip(problems_of(history, weak), deeds_of(history, weak)):
        place = [one for one, _ in problems].index(name) if strong == "thing" else 0
        order = []
        for x in rows[place]:
            number = deeds[place][x]
            word = problems[place][1][1][x][0][0]
            lays = word in ("look", "lay") and name in dict(left_by(*history[number][3:]))
            if not (word == "look" and lays) and not (word == "lay" and not lays):
                order.append(number)
        told.append(tuple(x for number in order for x, taker in enumerate(takers) if taker == number))
    return told


class Carried(unittest.TestCase):
    """[35]: rows carried over."""

    def carry(self, history, strong, rows, weak):
        told = own_list(self, carried, (history, strong, rows, weak))
        problems = [problem for _, problem in problems_of(history, weak)]
        self.assertEqual(len(told), len(problems))
        for problem, row in zip(problems, told):
            self.assertIsInstance(row, tuple)
            self.assertIsNone(row_fault(problem, row), (history, strong, rows, weak))
        return told

    # 0 and 1 at one time; 3 never ended, but was seen.
    HISTORY = (
        (0, 0, 9, ("deal", (("read", 0), ("add", 1, 2))), ("each", (("got", 1), ("got", 2)))),
        (1, 1, 8, ("add", 0, 1), ("got", 1)),
        (1, 10, 11, ("write", 1, 5), ("refused",)),
        (2, 2, None, ("write", 3, 7), None),
        (1, 12, 13, ("read", 3), ("got", 7)),
    )

    def test_from_real(self):
        self.assertEqual(deeds_of(self.HISTORY, "real"), [(0, 1, 3, 4)])
        rows = [(1, 0, 2, 3)]
        self.assertEqual(self.carry(self.HISTORY, "real", rows, "real"), rows)
        self.assertEqual(self.carry(self.HISTORY, "real", rows, "row"), rows)
        self.assertEqual(self.carry(self.HISTORY, "real", rows, "any"), rows)
        # Items of snap: look and lay of 0, look and lay of 1, 3 itself, look of 4.
        self.assertEqual(self.carry(self.HISTORY, "real", rows, "snap"), [(2, 3, 0, 1, 4, 5)])
        self.assertEqual(self.carry(self.HISTORY, "real", rows, "stand"), [(2, 3, 0, 1, 4, 5)])
        self.assertEqual(self.carry(self.HISTORY, "real", rows, "hand"), [(1, 0, 2), (1, 0, 2, 3), (1, 0, 2)])
        self.assertEqual(self.carry(self.HISTORY, "real", rows, "thing"), [(1, 0), (0,), (0, 1)])
        self.assertEqual(self.carry(self.HISTORY, "real", rows, "kept"), [(0,), (0,), (0,)])

    def test_snap_to_kept(self):
        # Hand 0 looks, hand 1 looks and lays key 1, hand 0 lays key 0: its no on key 1 was told at its look.
        history = (
            (0, 0, 9, ("deal", (("add", 0, 1), ("swap", 1, 5, 6))), ("each", (("got", 1), ("no",)))),
            (1, 1, 8, ("swap", 1, 0, 5), ("yes",)),
        )
        rows = [(0, 2, 3, 1)]
        self.assertEqual(self.carry(history, "snap", rows, "kept"), [(0,), (0, 1)])
        self.assertEqual(self.carry(history, "snap", rows, "stand"), rows)
        # On a key that its lay lays a deed comes with the lay.
        history = (
            (0, 0, 9, ("deal", (("read", 1), ("write", 0, 1))), ("each", (("got", 0), ("done",)))),
            (1, 1, 8, ("write", 1, 5), ("done",)),
            (2, 2, 7, ("add", 0, 4), ("got", 5)),
            (3, 3, None, ("add", 0, 4), None),
        )
        self.assertEqual(self.carry(history, "snap", [(0, 2, 1, 3, 4, 5)], "kept"), [(0, 1, 2), (0,)])

    def test_thing_to_kept_goes_by_keys(self):
        history = (
            (0, 0, 9, ("span", 0, 2), ("all", (0, 0))),
            (1, 1, 8, ("write", 1, 5), ("done",)),
            (2, 2, 7, ("write", 1, 6), ("done",)),
        )
        self.assertEqual(self.carry(history, "thing", [(0,), (0, 2, 1)], "kept"), [(1, 0)])
        self.assertEqual(self.carry(history, "thing", ([0], [0, 1, 2]), "kept"), [(0, 1)])

    def test_rows_in_lists(self):
        for strong, weak in PAIRS:
            rows = judged(self.HISTORY, strong, 5000)[1]
            told = self.carry(self.HISTORY, strong, rows, weak)
            for others in (tuple(rows), [list(row) for row in rows], tuple(list(row) for row in rows)):
                self.assertEqual(self.carry(self.HISTORY, strong, others, weak), told)

    def test_no_problems_at_all(self):
        for strong, weak in PAIRS:
            rows = [()] * len(problems_of((), strong))
            self.assertEqual(carried((), strong, rows, weak), [()] * len(problems_of((), weak)))

    def test_judged_histories(self):
        chance = random.Random(35)
        count = dict.fromkeys(PAIRS, 0)
        for number in range(40):
            history = random_history(chance, 4, 8, number % 2, keys=3)
            for strong, weak in PAIRS:
                verdict = judged(history, strong, 2000)
                if verdict[0] == "kept":
                    told = self.carry(history, strong, verdict[1], weak)
                    self.assertEqual(told, carried_by_the_words(history, strong, verdict[1], weak))
                    count[(strong, weak)] += 1
        self.assertGreater(min(count.values()), 10)

    def test_all_rows(self):
        chance = random.Random(351)
        for _ in range(60):
            history = random_history(chance, 3, chance.randrange(5))
            for strong, weak in PAIRS:
                problems = [problem for _, problem in problems_of(history, strong)]
                if max([len(problem[1]) for problem in problems], default=0) > 6:
                    continue
                lots = [all_rows(problem) for problem in problems]
                for rows in list(itertools.product(*lots))[:12]:
                    told = self.carry(history, strong, rows, weak)
                    self.assertEqual(told, carried_by_the_words(history, strong, rows, weak))


class Refused(unittest.TestCase):
    """[35]: NoHistory, then NoPromise, then NoProblem."""

    HISTORY = ((0, 0, 1, ADD, ("got", 1)), (1, 2, 3, ADD, ("got", 2)))
    ROWS = [(0, 1)]

    def refuses(self, error, *asked):
        with self.assertRaises(error):
            carried(*asked)

    def test_no_history(self):
        for history in (None, [], (None,), self.HISTORY * 2):
            for strong, rows, weak in [("real", self.ROWS, "row"), (None, None, None), ("row", [], "real")]:
                self.refuses(NoHistory, history, strong, rows, weak)

    def test_no_promise(self):
        for thing in ODD_THINGS + ["Real"]:
            for rows in (self.ROWS, None, []):
                self.refuses(NoPromise, self.HISTORY, thing, rows, "row")
                self.refuses(NoPromise, self.HISTORY, "row", rows, thing)
                self.refuses(NoPromise, self.HISTORY, thing, rows, thing)

    def test_promises_that_do_not_imply(self):
        for strong, weak in itertools.product(PROMISES, PROMISES):
            rows = judged(self.HISTORY, strong, 100)[1]
            if (strong, weak) in PAIRS:
                carried(self.HISTORY, strong, rows, weak)
            else:
                self.refuses(NoProblem, self.HISTORY, strong, rows, weak)

    def test_wrong_rows(self):
        for strong, weak in PAIRS:
            rows = judged(self.HISTORY, strong, 100)[1]
            for wrong in [None, 3, "rows", {}, rows + [()], rows[:-1], [], (), [None] * len(rows), [()] * len(rows),
                          [row[::-1] + (7,) for row in rows], [row + row for row in rows], rows[:-1] + ["x"]]:
                self.refuses(NoProblem, self.HISTORY, strong, wrong, weak)

    def test_a_row_with_a_fault(self):
        for weak in PROMISES:
            self.refuses(NoProblem, self.HISTORY, "real", [(1, 0)], weak)
        self.refuses(NoProblem, self.HISTORY, "any", [(1, 0)], "any")
        carried(self.HISTORY, "any", [(0, 1)], "any")


if __name__ == "__main__":
    unittest.main()
