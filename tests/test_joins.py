import random
import unittest

from helper import all_rows, did_add, did_read, did_write, random_history, told_alike
from storejudge.errors import NoHistory, NoProblem
from storejudge.groups import groups, part
from storejudge.joins import joined
from storejudge.promises import deeds_of, problems_of
from storejudge.rows import row_fault


def real(history):
    return problems_of(history, "real")[0][1]


def deeds_in(history, numbers, row):
    """The deeds of the whole, by a row of the part of these numbers."""
    told = deeds_of(part(history, numbers), "real")[0]
    return [numbers[told[x]] for x in row]


# Two groups: 5 and 6 are written to key 0 and read there, 1 is added to key 3 twice; one deed is refused.
TWO = (
    did_add(0, 4, 9, 2, 3), did_write(1, 0, 2, 5), did_add(2, 1, 12, 1, 3), did_read(1, 10, 11, 6),
    did_write(3, 3, None, 6), (4, 5, 6, ("span", 0, 8), ("refused",)),
)


class Joined(unittest.TestCase):
    """[37]: joins."""

    def holds(self, history, rows):
        row = told_alike(self, joined, (history, rows))
        self.assertIsInstance(row, tuple)
        self.assertIsNone(row_fault(real(history), row), (history, rows))
        deeds = [deeds_of(history, "real")[0][x] for x in row]
        each = [deeds_in(history, numbers, one) for (_, numbers), one in zip(groups(history), rows)]
        self.assertEqual(sorted(deeds), sorted(number for one in each for number in one))
        for one in each:
            self.assertEqual([number for number in deeds if number in one], one)
        return row

    def test_no_group(self):
        self.assertEqual(self.holds((), []), ())
        self.assertEqual(self.holds((), ()), ())
        self.assertEqual(self.holds(((0, 1, 2, ("read", 0), ("refused",)),), []), ())

    def test_one_group(self):
        self.assertEqual(self.holds((did_write(0, 0, 5, 1), did_read(1, 1, 4, 0)), [(1, 0)]), (1, 0))
        self.assertEqual(self.holds((did_read(1, 1, 4, 1), did_write(0, 0, 5, 1)), [[0, 1]]), (0, 1))
        self.assertEqual(self.holds((did_write(0, 0, None, 1), did_read(1, 1, 4, 0)), ([1],)), (1,))
        self.assertEqual(self.holds((did_write(0, 0, None, 1), did_read(1, 1, 4, 0)), ([1, 0],)), (1, 0))
        self.assertEqual(self.holds((did_write(0, 0, None, 1),), [()]), ())

    def test_two_groups(self):
        # By begins the whole has: 0 write 5, 1 add, 2 write 6 (never ended), 3 add, 4 read.
        told = self.holds(TWO, [(0, 1, 2), (0, 1)])
        self.assertLess(told.index(0), told.index(3))
        self.assertLess(told.index(3), told.index(4))
        self.assertEqual(self.holds(TWO, ([0, 1, 2], [0, 1])), told)

    def test_rows_against_the_order_of_begins(self):
        # In each group the first begun comes last; what really ended first is to come first all the same.
        history = (
            did_write(0, 0, 20, 1), did_read(1, 1, 2, 0), did_read(2, 3, 4, 0), did_write(3, 5, 30, 1, 1),
            did_read(4, 21, 22, 0, 1),
        )
        self.assertEqual(self.holds(history, [(1, 2, 0), (1, 0)]), (1, 2, 0, 4, 3))

    def test_never_ended_in_a_row_and_out_of_it(self):
        history = (did_write(0, 0, None, 1), did_write(1, 1, 2, 1, 1), did_read(2, 3, 4, 0),
                   did_write(3, 5, None, 2, 1))
        for one in [(1,), (1, 0)]:
            for two in [(0,), (0, 1)]:
                self.assertEqual(len(self.holds(history, [one, two])), len(one) + len(two))

    def test_many_histories(self):
        chance = random.Random(37)
        counts = {}
        for _ in range(250):
            history = random_history(chance, 5, chance.randrange(3, 9), keys=6)
            lots = [all_rows(real(part(history, numbers))) for _, numbers in groups(history)
                    if len(numbers) < 6]
            if len(lots) < len(groups(history)) or not all(lots):
                continue
            counts[len(lots)] = counts.get(len(lots), 0) + 1
            for _ in range(5):
                rows = [chance.choice([tuple, list])(chance.choice(lot)) for lot in lots]
                self.holds(history, chance.choice([tuple, list])(rows))
        self.assertGreater(min(counts[2], counts[3]), 20, counts)

    def test_what_is_told_is_kept(self):
        rows = [[0, 1, 2], [0, 1]]
        told = joined(TWO, rows)
        rows[0].clear()
        rows.clear()
        self.assertEqual(told, joined(TWO, [(0, 1, 2), (0, 1)]))

    def test_no_rows_of_the_groups(self):
        self.assertIsNone(row_fault(real(TWO), joined(TWO, [(0, 1, 2), (0, 1)])))
        wrong = [
            None, 3, "", "row", {}, {0: (0, 1, 2), 1: (0, 1)}, [], (), [(0, 1, 2)], [(0, 1, 2), (0, 1), ()],
            [(0, 1), (0, 1, 2)], [(1, 0, 2), (0, 1)], [(0, 1, 2), (1, 0)], [(0, 2), (0, 1)], [(0, 1, 2), (0,)],
            [(0, 1, 2), None], [None, (0, 1)], ["", (0, 1)], [(0, 1, 2), (0, 1, 1)], [(0, 1, 2), (0, 7)],
            [(0, 1, 2), (0, True)], (0, 1, 2),
        ]
        for rows in wrong:
            with self.assertRaises(NoProblem, msg=rows):
                joined(TWO, rows)
        one = (did_read(0, 0, 1, 1),)
        for history, rows in [((), [()]), ((), None), (one, []), (one, [()]), (one, [(0,)])]:
            with self.assertRaises(NoProblem):
                joined(history, rows)

    def test_no_history_goes_ahead(self):
        for history, at in [(None, -1), ([], -1), ((None,), 0), (TWO[:1] * 2, 1)]:
            for rows in [[], None, [()]]:
                with self.assertRaises(NoHistory) as caught:
                    joined(history, rows)
                self.assertEqual(caught.exception.at, at)


if __name__ == "__main__":
    unittest.main()
