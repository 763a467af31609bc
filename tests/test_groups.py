import random
import unittest

from helper import own_list, random_history, told_alike
from storejudge.calls import keys_of
from storejudge.errors import NoHistory
from storejudge.groups import groups, part
from storejudge.histories import look_over


def deed(number, call, answer):
    return (number % 6, 2 * number, 2 * number + 1, call, answer)


def history_of(*calls):
    """A history of these deeds: a call alone got what a fresh store tells, a pair is a call and its answer."""
    return tuple(deed(number, call, answer) for number, (call, answer) in enumerate(calls))


def read(key):
    return (("read", key), ("got", 0))


def write(key):
    return (("write", key, 1), ("done",))


def span(low, high):
    return (("span", low, high), ("all", (0,) * (high - low)))


def deal(*keys):
    return (("deal", tuple(("read", key) for key in keys)), ("each", (("got", 0),) * len(keys)))


def refused(told):
    return (told[0], ("refused",))


def by_the_words(history):
    """[36]: from each deed along all chains."""
    live = [number for number, one in enumerate(history) if one[4] != ("refused",)]
    told = {}
    for number in live:
        lot = {number}
        grown = True
        while grown:
            near = {b for a in lot for b in live if set(keys_of(history[a][3])) & set(keys_of(history[b][3]))}
            grown = not near <= lot
            lot |= near
        keys = tuple(sorted({key for one in lot for key in keys_of(history[one][3])}))
        told[keys] = tuple(sorted(lot))
    return [(keys, told[keys]) for keys in sorted(told, key=min)]


class Groups(unittest.TestCase):
    """[36]: groups."""

    def told(self, expected, *calls):
        history = history_of(*calls)
        look_over(history)
        self.assertEqual(own_list(self, groups, (history,)), expected)
        self.assertEqual(by_the_words(history), expected)

    def test_none(self):
        self.told([])
        self.told([], refused(read(1)), refused(write(2)))

    def test_each_by_itself(self):
        self.told([((3,), (0,))], read(3))
        self.told([((0,), (2,)), ((1,), (1,)), ((5,), (0,))], write(5), read(1), read(0))
        self.told([((1,), (0, 2)), ((4,), (1,))], read(1), write(4), write(1))

    def test_joined(self):
        self.told([((1, 4), (0, 1, 2))], read(1), deal(4, 1), write(4))
        self.told([((0, 1, 2, 3), (0, 1, 2)), ((6,), (3,))], span(0, 2), span(2, 4), deal(3, 1), read(6))
        self.told([((0, 1, 2, 3, 4, 5, 6, 7), (0, 1, 2))], read(0), read(7), span(0, 8))

    def test_by_a_chain(self):
        self.told([((0, 1, 2, 3), (0, 1, 2))], deal(0, 1), deal(2, 3), deal(1, 2))
        self.told([((0, 1, 2, 7), (0, 2, 3)), ((3, 4), (1,))], deal(7, 2), deal(4, 3), deal(0, 1), deal(1, 7))

    def test_by_their_least_keys(self):
        self.told([((0, 7), (1,)), ((1, 2), (0,)), ((3,), (2,))], deal(2, 1), deal(0, 7), read(3))
        self.told([((0, 2), (2,)), ((1, 7), (0,)), ((3,), (1,))], deal(7, 1), read(3), deal(0, 2))

    def test_refused_ones_join_nothing(self):
        self.told([((0,), (0,)), ((1,), (2,))], read(0), refused(deal(0, 1)), read(1))
        self.told([((0, 1), (0, 1, 2))], read(0), deal(0, 1), read(1))

    def test_deeds_that_never_ended_join(self):
        history = ((0, 0, 1) + read(0), (1, 2, None, deal(0, 1)[0], None), (2, 3, 4) + read(1))
        self.assertEqual(groups(history), [((0, 1), (0, 1, 2))])

    def test_many_histories(self):
        chance = random.Random(36)
        for _ in range(200):
            history = random_history(chance, 4, chance.randrange(10), keys=8)
            self.assertEqual(own_list(self, groups, (history,)), by_the_words(history))

    def test_no_history(self):
        for history, at in [(None, -1), ([], -1), ((None,), 0), (history_of(read(0)) * 2, 1)]:
            with self.assertRaises(NoHistory) as caught:
                groups(history)
            self.assertEqual(caught.exception.at, at)


class Part(unittest.TestCase):
    """[36]: the part of a history."""

    HISTORY = history_of(read(0), write(1), refused(read(2)), span(0, 8))

    def test_part(self):
        one, two, three, four = self.HISTORY
        self.assertEqual(told_alike(self, part, (self.HISTORY, (0, 3))), (one, four))
        self.assertEqual(part(self.HISTORY, [3, 0, 2]), (four, one, three))
        self.assertEqual(part(self.HISTORY, (0, 1, 2, 3)), self.HISTORY)
        self.assertEqual(part(self.HISTORY, (1,)), (two,))
        self.assertEqual(part(self.HISTORY, ()), ())
        self.assertEqual(part((), []), ())

    def test_parts_of_groups_are_histories(self):
        chance = random.Random(361)
        for _ in range(50):
            history = random_history(chance, 4, 8, keys=6)
            for keys, numbers in groups(history):
                look_over(part(history, numbers))


if __name__ == "__main__":
    unittest.main()
