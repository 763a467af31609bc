"""[3]: what holds of the whole."""

import random
import unittest

from helper import KEEPS, random_history
from storejudge.asides import aside
from storejudge.carried import carried, implies
from storejudge.groups import groups, part
from storejudge.histories import look_over, of_hand
from storejudge.joins import joined
from storejudge.leasts import least
from storejudge.makers import make
from storejudge.promises import PROMISES, problems_of
from storejudge.quiets import in_pieces, pieces
from storejudge.rows import row_fault
from storejudge.stands import ends, search
from storejudge.store import FIRST
from storejudge.stores import promise_of
from storejudge.texts import read_history, read_problem, show_history, show_problem
from storejudge.verdicts import judged, verdict_fault


def verdicts(history):
    return {promise: judged(history, promise, 5000)[0] for promise in PROMISES}


def histories():
    chance = random.Random(3)
    told = [history for history, _ in KEEPS]
    for number in range(60):
        told.append(random_history(chance, chance.randrange(1, 5), chance.randrange(2, 7), number % 3, keys=3))
    return told


def renamed(chance, history):
    hands = chance.sample(range(6), 6)
    return tuple((hands[deed[0]],) + deed[1:] for deed in history)


def stretched(chance, history):
    times = sorted(time for deed in history for time in deed[1:3] if time is not None)
    new = {None: None}
    now = -1
    for time in times:
        now += chance.choice([1, 1, 2, 10 ** 30])
        new[time] = now
    return tuple((deed[0], new[deed[1]], new[deed[2]]) + deed[3:] for deed in history)


def listed_otherwise(chance, history):
    return tuple(chance.sample(history, len(history)))


class Whole(unittest.TestCase):
    def test_the_judge_tells_without_fault(self):
        seen = {}
        for history in histories():
            for promise in PROMISES:
                for most in (1, 5, 5000):
                    told = judged(history, promise, most)
                    self.assertIsNone(verdict_fault(history, promise, told))
                    seen[told[0]] = seen.get(told[0], 0) + 1
                    if told[0] == "more":
                        problem = problems_of(history, promise)[told[1]][1]
                        self.assertEqual(search(problem, most), ("more",))
        self.assertGreater(min(seen[word] for word in ("kept", "broken", "more")), 50, seen)

    def test_stronger_promises_imply_weaker_ones(self):
        for history in histories():
            told = verdicts(history)
            self.assertNotIn("more", told.values())
            for strong in PROMISES:
                for weak in PROMISES:
                    if told[strong] == "kept" and implies(strong, weak):
                        self.assertEqual(told[weak], "kept", (history, strong, weak))

    def test_no_others_are_implied(self):
        told = [verdicts(history) for history in histories()]
        for strong in PROMISES:
            for weak in PROMISES:
                if not implies(strong, weak):
                    shown = [one for one in told if one[strong] == "kept" and one[weak] == "broken"]
                    self.assertTrue(shown, (strong, weak))

    def test_kept_just_where_each_group_keeps_it(self):
        seen = {}
        for history in histories():
            parts = [judged(part(history, numbers), "real", 5000) for _, numbers in groups(history)]
            whole = judged(history, "real", 5000)[0]
            kept = all(told[0] == "kept" for told in parts)
            self.assertEqual(whole, "kept" if kept else "broken", history)
            if kept:
                row = joined(history, [told[1][0] for told in parts])
                self.assertIsNone(row_fault(problems_of(history, "real")[0][1], row))
            seen[(whole, min(len(parts), 2))] = True
        self.assertTrue({("kept", 2), ("broken", 2), ("kept", 1), ("broken", 1)} <= set(seen))

    def test_kept_just_where_the_pieces_are_one_behind_the_other(self):
        seen = {}
        for history in histories():
            stands = [FIRST]
            for numbers in pieces(history):
                problem = problems_of(part(history, numbers), "real")[0][1]
                stands = sorted({end for stand in stands for end in ends((stand,) + problem[1:], 5000)})
            whole = judged(history, "real", 5000)[0]
            self.assertEqual(whole, "kept" if stands else "broken", history)
            told = in_pieces(history, 5000)
            self.assertEqual(told[0], whole)
            if whole == "kept":
                self.assertIsNone(row_fault(problems_of(history, "real")[0][1], told[1]))
            seen[(whole, min(len(pieces(history)), 2))] = True
        self.assertTrue({("kept", 2), ("broken", 2), ("kept", 1), ("broken", 1)} <= set(seen))

    def test_a_least_lot_where_there_is_no_row(self):
        for history in histories():
            for promise in PROMISES:
                for _, problem in problems_of(history, promise):
                    told = least(problem, 5000)
                    self.assertEqual(told[0] == "row", search(problem, 5000)[0] == "row")
                    if told[0] == "least":
                        musts = [x for x, item in enumerate(problem[1]) if item[2] == "must"]
                        freed = aside(problem, [x for x in musts if x not in told[1]])
                        self.assertEqual(search(freed, 5000)[0], "stands")
                        for one, row in zip(told[1], told[2]):
                            self.assertIsNone(row_fault(aside(freed, (one,)), row))

    def test_what_a_store_does_keeps_its_promise(self):
        chance = random.Random(333)
        for history in histories():
            plans = tuple(tuple(history[number][3] for number in of_hand(history, hand)) for hand in range(6))
            for store in ("whole", "late", "looks", "torn", "copies"):
                promise = promise_of(store)
                made, rows = make(store, plans, [chance.randrange(10 ** 9) for _ in range(chance.randrange(60))])
                self.assertIsNone(verdict_fault(made, promise, ("kept", rows)))
                self.assertEqual(judged(made, promise, 5000)[0], "kept")
                for weak in PROMISES:
                    if implies(promise, weak):
                        less = carried(made, promise, rows, weak)
                        self.assertIsNone(verdict_fault(made, weak, ("kept", less)))
                        self.assertEqual(judged(made, weak, 5000)[0], "kept")
                self.assertEqual(read_history(show_history(made)), made)
                for _, problem in problems_of(made, promise):
                    self.assertEqual(read_problem(show_problem(problem)), problem)

    def test_the_same_promises_are_kept(self):
        chance = random.Random(33)
        for history in histories():
            told = verdicts(history)
            for turned in (renamed, stretched, listed_otherwise):
                other = turned(chance, history)
                look_over(other)
                self.assertEqual(verdicts(other), told, (turned, history))
            other = listed_otherwise(chance, stretched(chance, renamed(chance, history)))
            self.assertEqual(verdicts(other), told, history)


if __name__ == "__main__":
    unittest.main()
