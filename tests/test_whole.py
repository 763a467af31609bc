"""[3]: what holds of the whole, as far as it is built."""

import random
import unittest

from helper import KEEPS, random_history
from storejudge.carried import implies
from storejudge.histories import look_over
from storejudge.promises import PROMISES, problems_of
from storejudge.stands import search
from storejudge.verdicts import judged, verdict_fault


def verdicts(history):
    return {promise: judged(history, promise, 5000)[0] for promise in PROMISES}


def histories():
    chance = random.Random(3)
    told = [history for history, _ in KEEPS]
    for number in range(60):
        told.append(random_history(chance, chance.randrange(1, 5), chance.randrange(2, 7), number % 3, keys=3))
    return told


def renamed(chance, history):
    hands = chance.sample(range(6), 6)
    return tuple((hands[deed[0]],) + deed[1:] for deed in history)


def stretched(chance, history):
    times = sorted(time for deed in history for time in deed[1:3] if time is not None)
    new = {None: None}
    now = -1
    for time in times:
        now += chance.choice([1, 1, 2, 10 ** 30])
        new[time] = now
    return tuple((deed[0], new[deed[1]], new[deed[2]]) + deed[3:] for deed in history)


def listed_otherwise(chance, history):
    return tuple(chance.sample(history, len(history)))


class Whole(unittest.TestCase):
    def test_the_judge_tells_without_fault(self):
        seen = {}
        for history in histories():
            for promise in PROMISES:
                for most in (1, 5, 5000):
                    told = judged(history, promise, most)
                    self.assertIsNone(verdict_fault(history, promise, told))
                    seen[told[0]] = seen.get(told[0], 0) + 1
                    if told[0] == "more":
                        problem = problems_of(history, promise)[told[1]][1]
                        self.assertEqual(search(problem, most), ("more",))
        self.assertGreater(min(seen[word] for word in ("kept", "broken", "more")), 50, seen)

    def test_stronger_promises_imply_weaker_ones(self):
        for history in histories():
            told = verdicts(history)
            self.assertNotIn("more", told.values())
            for strong in PROMISES:
                for weak in PROMISES:
                    if told[strong] == "kept" and implies(strong, weak):
                        self.assertEqual(told[weak], "kept", (history, strong, weak))

    def test_no_others_are_implied(self):
        told = [verdicts(history) for history in histories()]
        for strong in PROMISES:
            for weak in PROMISES:
                if not implies(strong, weak):
                    shown = [one for one in told if one[strong] == "kept" and one[weak] == "broken"]
                    self.assertTrue(shown, (strong, weak))

    def test_the_same_promises_are_kept(self):
        chance = random.Random(33)
        for history in histories():
            told = verdicts(history)
            for turned in (renamed, stretched, listed_otherwise):
                other = turned(chance, history)
                look_over(other)
                self.assertEqual(verdicts(other), told, (turned, history))
            other = listed_otherwise(chance, stretched(chance, renamed(chance, history)))
            self.assertEqual(verdicts(other), told, history)


if __name__ == "__main__":
    unittest.main()
