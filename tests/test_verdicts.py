import random
import unittest

from helper import KEEPS, ODD_THINGS, all_nodes, all_rows, did_read, did_write, random_history, told_alike
from storejudge.errors import NoHistory, NoPromise
from storejudge.judge import judge
from storejudge.papers import paper_fault
from storejudge.promises import PROMISES, problems_of
from storejudge.rows import row_fault
from storejudge.verdicts import judged, verdict_fault


def no_nine(key, time, count=6):
    """Writes on a key, all at one time, and a read of 9 that nobody wrote: no row, no ring, and many nodes."""
    calls = tuple(("write", key, value) for value in range(1, count))
    deeds = [(hand, time + hand, time + 20 + hand, call, ("done",)) for hand, call in enumerate(calls)]
    return tuple(deeds) + (did_read(5, time + 5, time + 30, 9, key),)


class Judged(unittest.TestCase):
    """[32]: a history judged by a promise."""

    def holds(self, history, promise, verdict):
        self.assertIsNone(told_alike(self, verdict_fault, (history, promise, verdict)))
        problems = [problem for _, problem in problems_of(history, promise)]
        if verdict[0] == "kept":
            self.assertIsInstance(verdict[1], list)
            self.assertEqual(len(verdict[1]), len(problems))
            for problem, row in zip(problems, verdict[1]):
                self.assertIsInstance(row, tuple)
                self.assertIsNone(row_fault(problem, row))
        elif verdict[0] == "broken":
            self.assertIsNone(paper_fault(problems[verdict[1]], verdict[2]))

    def test_kept_and_broken(self):
        for history, keeps in KEEPS:
            for promise in PROMISES:
                told = told_alike(self, judged, (history, promise, 5000))
                self.assertEqual(told[0], "kept" if promise in keeps else "broken", (history, promise))
                self.holds(history, promise, told)

    def test_rows_of_no_problems(self):
        self.assertEqual(judged((), "hand", 1), ("kept", []))
        self.assertEqual(judged((), "real", 1), ("kept", [()]))

    def test_the_first_broken_one(self):
        history = (did_read(0, 0, 1, 0, 2), did_read(0, 2, 3, 9, 4), did_read(0, 4, 5, 9, 6))
        self.assertEqual(judged(history, "thing", 100)[:2], ("broken", 1))
        self.holds(history, "thing", judged(history, "thing", 100))

    def test_more(self):
        history = no_nine(0, 0)
        problem = problems_of(history, "thing")[0][1]
        count = len(all_nodes(problem))
        self.assertEqual(judge(problem, count - 1), ("more",))
        self.assertEqual(judged(history, "thing", count - 1), ("more", 0))
        self.assertEqual(judged(history, "thing", count)[:2], ("broken", 0))

    def test_the_first_of_which_more_is_told(self):
        history = (did_read(0, 0, 1, 0, 0),) + no_nine(2, 10) + no_nine(5, 60)
        self.assertEqual(judged(history, "thing", 5), ("more", 1))

    def test_broken_goes_ahead_of_more(self):
        ahead = no_nine(0, 10)
        broken = (did_read(0, 60, 61, 9, 7),)
        self.assertEqual(judged(ahead, "thing", 5), ("more", 0))
        told = judged(ahead + broken, "thing", 5)
        self.assertEqual(told[:2], ("broken", 1))
        self.holds(ahead + broken, "thing", told)

    def test_lists_are_the_askers_own(self):
        history = (did_write(0, 0, 1, 5), did_read(1, 2, 3, 5))
        kept = judged(history, "hand", 100)
        judged(history, "hand", 100)[1].clear()
        self.assertEqual(judged(history, "hand", 100), kept)

    def test_as_all_rows_have_it(self):
        chance = random.Random(32)
        seen = {}
        for _ in range(60):
            history = random_history(chance, 3, chance.randrange(1, 5), chance.randrange(3))
            for promise in PROMISES:
                problems = [problem for _, problem in problems_of(history, promise)]
                if max([len(problem[1]) for problem in problems], default=0) > 6:
                    continue
                told = told_alike(self, judged, (history, promise, 5000))
                self.holds(history, promise, told)
                rowless = [number for number, problem in enumerate(problems) if not all_rows(problem)]
                if rowless:
                    self.assertEqual(told[:2], ("broken", rowless[0]))
                else:
                    self.assertEqual(told[0], "kept")
                seen[(promise, told[0])] = True
        self.assertEqual(len(seen), 2 * len(PROMISES))

    def test_refused(self):
        for history in (None, [], (None,), (did_write(0, 0, 1, 5),) * 2):
            for promise in ("real", "none", None):
                with self.assertRaises(NoHistory):
                    judged(history, promise, 100)
        for promise in ODD_THINGS + ["Real"]:
            with self.assertRaises(NoPromise):
                judged((), promise, 100)


class Fault(unittest.TestCase):
    """[33]: the fault of a verdict."""

    HISTORY = (did_write(0, 0, 1, 5), did_read(1, 2, 3, 5), did_write(1, 4, 5, 6, 1))
    BROKEN = (did_write(0, 0, 1, 5), did_read(1, 2, 3, 9))

    def told(self, fault, verdict, history=HISTORY, promise="thing"):
        self.assertEqual(told_alike(self, verdict_fault, (history, promise, verdict)), fault, verdict)

    def test_none(self):
        for rows in ([(0, 1), (0,)], ((0, 1), (0,)), ([0, 1], [0])):
            self.told(None, ("kept", rows))
        self.told(None, ("more", 0))
        self.told(None, ("more", 1))
        self.told(None, judged(self.BROKEN, "real", 100), self.BROKEN, "real")
        self.told(None, ("kept", []), (), "hand")
        self.told(None, ("kept", [()]), (), "real")

    def test_form(self):
        for thing in ODD_THINGS + [
            ("kept",), ("kept", [(0, 1), (0,)], 0), ["kept", [(0, 1), (0,)]], ("Kept", [(0, 1), (0,)]),
            ("kept", None), ("kept", {}), ("kept", "ab"), ("kept", 2), ("kept", {0: (0, 1), 1: (0,)}),
            ("kept", []), ("kept", [(0, 1)]), ("kept", [(0, 1), (0,), ()]), ("kept", ()),
            ("more",), ("more", 0, 0), ["more", 0], ("more", 2), ("more", -1), ("more", True), ("more", None),
            ("more", "0"), ("more", []),
            ("broken",), ("broken", 0), ("broken", 0, ("ring", []), 0), ["broken", 0, ("ring", [])],
            ("broken", 2, ("ring", [])), ("broken", -1, ("ring", [])), ("broken", False, ("ring", [])),
            ("broken", None, ("ring", [])), ("broken", (0,), ("ring", [])), ("row", (0, 1)), ("paper", ("ring", [])),
        ]:
            self.told(("form",), thing)

    def test_numbers_of_no_problems(self):
        for verdict in [("more", 0), ("broken", 0, ("ring", [])), ("kept", [()])]:
            self.told(("form",), verdict, (), "hand")

    def test_row(self):
        self.told(("row", 0, ("place", 0)), ("kept", [(1, 0), (0,)]))
        self.told(("row", 1, ("missing", 0)), ("kept", [(0, 1), ()]))
        self.told(("row", 1, ("form",)), ("kept", [(0, 1), (1,)]))
        self.told(("row", 0, ("form",)), ("kept", [None, None]))
        self.told(("row", 1, ("form",)), ("kept", ((0, 1), "0")))
        self.told(("row", 0, ("missing", 0)), ("kept", [(), ()]))
        self.told(("row", 0, ("answer", 0)), ("kept", [(1, 0, 2)]), promise="any")

    def test_paper(self):
        self.told(("paper", ((), "open")), ("broken", 0, ("ring", [])))
        self.told(("paper", ((), "form")), ("broken", 1, None))
        self.told(("paper", ((), "first")), ("broken", 1, ("stands", [])))
        cases = ("cases", 0, 1, ("ring", ()), None)
        self.told(("paper", (("one",), "open")), ("broken", 0, cases))
        self.told(("paper", ((), "case")), ("broken", 1, cases))

    def test_of_more_nothing_else_is_looked_at(self):
        self.told(None, ("more", 0), self.BROKEN, "real")
        self.told(None, ("more", 0), self.HISTORY, "real")

    def test_not_both(self):
        papers = []
        verdicts = []
        for history, _ in KEEPS:
            for promise in PROMISES:
                told = judged(history, promise, 5000)
                verdicts.append((history, promise, told[0]))
                if told[0] == "broken":
                    papers.append(told[2])
        for history, promise, word in verdicts:
            if word == "kept":
                for number in range(len(problems_of(history, promise))):
                    for paper in papers:
                        self.assertIsNotNone(verdict_fault(history, promise, ("broken", number, paper)))

    def test_refused(self):
        for verdict in [("kept", []), None, ("more", 0)]:
            with self.assertRaises(NoHistory):
                verdict_fault([], "none", verdict)
            with self.assertRaises(NoPromise):
                verdict_fault((), "none", verdict)


if __name__ == "__main__":
    unittest.main()
