import random
import unittest

from helper import all_nodes, all_rows, did_add, did_read, did_write, own_list, random_history, told_alike
from storejudge.errors import NoHistory
from storejudge.groups import part
from storejudge.promises import deeds_of, problems_of
from storejudge.quiets import in_pieces, pieces
from storejudge.rows import row_fault
from storejudge.store import FIRST, done
from storejudge.verdicts import judged


def real(history):
    return problems_of(history, "real")[0][1]


def from_stand(problem, stand):
    return (stand,) + problem[1:]


def refused(hand, begin, end, key=0):
    return (hand, begin, end, ("write", key, 1), ("refused",))


def pieces_by_the_words(history):
    """[38] and [11]: at each time in turn, what has ended there and is in no piece yet."""
    told, cut = [], []
    for time in range(max([end or begin for _, begin, end, _, _ in history], default=0) + 2):
        ended = [number for number, deed in enumerate(history) if deed[2] is not None and deed[2] < time]
        later = [number for number, deed in enumerate(history) if deed[1] >= time]
        fresh = [number for number in ended if number not in cut]
        if fresh and later and len(ended) + len(later) == len(history):
            told.append(tuple(fresh))
            cut += fresh
    rest = tuple(number for number in range(len(history)) if number not in cut)
    return told + [rest] if rest else told


def end_of(problem, row):
    stand = problem[0]
    for x in row:
        stand = done(stand, problem[1][x][0])[1]
    return stand


def judged_by_the_words(history, most):
    """[38]: by all nodes and all rows of each piece from each stand."""
    stands = {FIRST}
    for number, piece in enumerate(pieces_by_the_words(history)):
        problems = [from_stand(real(part(history, piece)), stand) for stand in stands]
        if any(len(all_nodes(problem)) > most for problem in problems):
            return ("more", number)
        stands = {end_of(problem, row) for problem in problems for row in all_rows(problem)}
        if not stands:
            return ("broken", number)
    return ("kept",)


class Pieces(unittest.TestCase):
    """[38]: pieces."""

    def told(self, expected, *history):
        self.assertEqual(own_list(self, pieces, (history,)), expected)
        self.assertEqual(pieces_by_the_words(history), expected)

    def test_no_deeds(self):
        self.told([])

    def test_no_quiet_times(self):
        self.told([(0,)], did_read(0, 3, 5, 0))
        self.told([(0,)], did_write(0, 3, None, 0))
        self.told([(0, 1)], did_read(0, 1, 3, 0), did_read(1, 2, 4, 0))
        self.told([(0, 1)], did_write(0, 0, None, 1), did_read(1, 2, 4, 0))
        self.told([(0, 1, 2)], did_read(0, 1, 3, 0), did_read(1, 4, 6, 0), did_read(2, 2, 5, 0))

    def test_some(self):
        self.told([(0,), (1,)], did_read(0, 0, 1, 0), did_read(0, 2, 3, 0))
        self.told([(1,), (0,)], did_read(0, 2, 3, 0), did_read(0, 0, 1, 0))
        self.told([(0, 3), (1, 2)], did_read(0, 0, 5, 0), did_write(1, 10, None, 1), did_read(2, 12, 13, 0),
                  did_read(3, 2, 9, 0))
        self.told([(2,), (0, 3), (1,)], did_read(0, 20, 30, 0), did_read(1, 41, 42, 0), did_read(2, 0, 19, 0),
                  did_read(3, 29, 40, 0))

    def test_never_ended_deeds_let_no_quiet_time_come_behind_them(self):
        self.told([(0,), (1, 2)], did_read(0, 0, 1, 0), did_write(1, 2, None, 1), did_read(2, 3, 4, 0))

    def test_refused_deeds_count(self):
        self.told([(0, 1, 2)], did_read(0, 0, 2, 0), refused(1, 1, 4), did_read(2, 3, 5, 0))
        self.told([(0,), (1,), (2,)], did_read(0, 0, 1, 0), refused(1, 2, 3), did_read(2, 4, 5, 0))
        self.told([(0,), (1,)], refused(1, 2, 3), refused(1, 4, 5))

    def test_many_histories(self):
        chance = random.Random(38)
        counts = {}
        for _ in range(300):
            history = random_history(chance, chance.randrange(1, 4), chance.randrange(9))
            told = own_list(self, pieces, (history,))
            self.assertEqual(told, pieces_by_the_words(history))
            counts[len(told)] = counts.get(len(told), 0) + 1
        self.assertGreater(min(counts[1], counts[2], counts[3]), 15, counts)

    def test_no_history(self):
        for history, at in [(None, -1), ([], -1), ((None,), 0), ((did_read(0, 0, 1, 0),) * 2, 1)]:
            for ask in (pieces, lambda thing: in_pieces(thing, 5)):
                with self.assertRaises(NoHistory) as caught:
                    ask(history)
                self.assertEqual(caught.exception.at, at)


class InPieces(unittest.TestCase):
    """[38]: a history judged piece by piece."""

    def told(self, word, *history, most=5000):
        told = told_alike(self, in_pieces, (history, most))
        self.assertIsInstance(told, tuple)
        self.assertEqual(len(told), 2)
        self.assertEqual(judged_by_the_words(history, most)[0], told[0])
        if told[0] == "kept":
            self.assertIsInstance(told[1], tuple)
            self.assertIsNone(row_fault(real(history), told[1]), history)
            self.assertEqual(told[0], word)
        else:
            self.assertEqual(told, word)
            self.assertEqual(judged_by_the_words(history, most), told)
        return told

    def test_no_deeds(self):
        self.assertEqual(self.told("kept", most=1), ("kept", ()))

    def test_refused_deeds_alone(self):
        self.assertEqual(self.told("kept", refused(0, 0, 1), refused(0, 2, 3), most=1), ("kept", ()))

    def test_kept(self):
        self.told("kept", did_write(0, 0, 1, 5), did_read(0, 2, 3, 5))
        self.told("kept", did_read(0, 4, 5, 5), did_write(0, 0, 1, 5), refused(2, 2, 3))
        self.told("kept", did_add(0, 0, 3, 2), did_add(1, 1, 2, 1), did_read(0, 4, 5, 2), did_write(1, 6, None, 7),
                  did_read(0, 7, 8, 7))

    def test_broken_with_the_first_such_piece(self):
        self.told(("broken", 0), did_read(0, 0, 1, 5))
        self.told(("broken", 0), did_read(0, 0, 1, 5), did_read(0, 2, 3, 0))
        self.told(("broken", 1), did_write(0, 0, 1, 5), did_read(1, 2, 3, 0), did_read(1, 4, 5, 9))
        self.told(("broken", 2), did_read(1, 4, 5, 0), did_write(0, 0, 1, 5), did_read(1, 2, 3, 5))
        self.told(("broken", 2), did_write(0, 0, 1, 5), refused(1, 2, 3), did_read(1, 4, 5, 1))

    def test_more_than_one_stand(self):
        writes = (did_write(0, 0, 3, 5), did_write(1, 1, 2, 6))
        both = writes + (did_write(2, 10, 13, 7, 1), did_write(3, 11, 12, 8, 1))
        for x in (5, 6):
            self.told("kept", *writes, did_read(0, 4, 5, x))
            for y in (7, 8):
                self.told("kept", *both, (4, 20, 21, ("span", 0, 2), ("all", (x, y))))
                self.told("kept", *both, did_read(4, 20, 21, y, 1), did_read(4, 22, 23, x))
                self.told(("broken", 3), *both, did_read(4, 20, 21, y, 1), did_read(4, 22, 23, y))
        self.told(("broken", 1), *writes, did_read(0, 4, 5, 0))
        self.told(("broken", 2), *writes, did_read(0, 4, 5, 5), did_read(0, 6, 7, 6))
        self.told(("broken", 2), *both, (4, 20, 21, ("span", 0, 2), ("all", (5, 5))))

    def test_what_was_there_hangs_together(self):
        # Two deals write 1, 1 or 2, 2: behind them 1, 2 is never there, though 1 and 2 each may be.
        deals = tuple((hand, hand, 5 + hand, ("deal", (("write", 0, 1 + hand), ("write", 1, 1 + hand))),
                       ("each", (("done",), ("done",)))) for hand in (0, 1))
        for x in (1, 2):
            for y in (1, 2):
                word = "kept" if x == y else ("broken", 2)
                self.told(word, *deals, did_read(0, 10, 11, x), did_read(0, 12, 13, y, 1))

    def test_more(self):
        # A piece of one ended deed has two nodes, one of two that go together in either order four or five.
        one = did_write(0, 0, 1, 5)
        self.told(("more", 0), one, most=1)
        self.told("kept", one, most=2)
        self.told(("more", 1), did_write(0, 0, 1, 5), did_write(0, 2, 5, 6), did_write(1, 3, 4, 7), most=4)
        self.told("kept", did_write(0, 0, 1, 5), did_write(0, 2, 5, 6), did_write(1, 3, 4, 7), most=5)

    def test_more_of_the_first_such_piece(self):
        pair = (did_write(0, 0, 3, 5), did_write(1, 1, 2, 6))
        again = (did_write(0, 10, 13, 5), did_write(1, 11, 12, 6))
        self.told(("more", 0), *pair, *again, most=4)
        self.told(("more", 0), *pair, did_read(0, 10, 11, 9), most=4)
        self.told(("broken", 0), did_read(3, 0, 1, 9), *again, most=4)
        self.told(("broken", 1), *pair, did_read(0, 4, 5, 9), *again, most=5)

    def test_more_of_a_last_piece_though_it_has_a_row_or_none(self):
        pair = (did_write(0, 10, 13, 5), did_write(1, 11, 12, 6))
        self.told(("more", 1), did_read(0, 0, 1, 0), *pair, most=4)
        self.told(("more", 1), did_read(0, 0, 1, 0), *pair, did_read(2, 9, 14, 9), most=4)
        self.told(("broken", 1), did_read(0, 0, 1, 0), *pair, did_read(2, 9, 14, 9), most=5)

    def test_more_from_one_stand_alone(self):
        # Behind the writes 5 or 6 is there; only from 6 the swap and the write lead on to more nodes.
        ahead = (did_write(0, 0, 3, 5), did_write(1, 1, 2, 6))
        behind = ((0, 10, 15, ("swap", 0, 6, 7), ("yes",)), did_write(1, 11, 14, 6, 1), did_read(2, 12, 13, 0, 1))
        for most in range(5, 12):
            word = judged_by_the_words(ahead + behind, most)
            self.told("kept" if word == ("kept",) else word, *ahead, *behind, most=most)

    def test_many_stands(self):
        # Behind eight pieces of three writes each there are 3 ** 8 stands.
        history = []
        for key in range(8):
            history += [did_write(hand, 10 * key + hand, 10 * key + 5 + hand, hand + 1, key) for hand in range(3)]
        read = (5, 100, 101, ("span", 0, 8), ("all", (1, 2, 3, 1, 2, 3, 1, 2)))
        told = in_pieces(tuple(history) + (read,), 5000)
        self.assertEqual(told[0], "kept")
        self.assertIsNone(row_fault(real(tuple(history) + (read,)), told[1]))
        wrong = (5, 100, 101, ("span", 0, 8), ("all", (1, 2, 3, 1, 2, 3, 1, 4)))
        self.assertEqual(in_pieces(tuple(history) + (wrong,), 5000), ("broken", 8))

    def test_many_histories(self):
        chance = random.Random(381)
        counts = {}
        for number in range(250):
            history = random_history(chance, chance.randrange(1, 4), chance.randrange(2, 7), number % 3)
            if any(len(piece) > 5 for piece in pieces(history)):
                continue
            most = chance.choice([2, 5, 10, 20, 5000])
            word = judged_by_the_words(history, most)
            told = self.told("kept" if word == ("kept",) else word, *history, most=most)
            if most == 5000:
                self.assertEqual(told[0], judged(history, "real", 5000)[0])
            counts[told[0]] = counts.get(told[0], 0) + 1
        self.assertGreater(min(counts[word] for word in ("kept", "broken", "more")), 20, counts)

    def test_held_against_judging_the_whole(self):
        chance = random.Random(382)
        counts = {}
        for number in range(60):
            history = random_history(chance, 3, 20, number % 2, keys=3)
            whole = judged(history, "real", 5000)
            told = in_pieces(history, 5000)
            self.assertNotIn("more", (whole[0], told[0]))
            self.assertEqual(whole[0], told[0])
            if told[0] == "kept":
                self.assertIsNone(row_fault(real(history), told[1]))
                self.assertEqual(len(told[1]), len(set(told[1])))
            counts[(told[0], min(len(pieces(history)), 2))] = True
        self.assertEqual(len(counts), 4)

    def test_deeds_out_of_the_row_are_refused_or_never_ended(self):
        history = (did_write(0, 0, 1, 5), refused(1, 2, 3), did_write(2, 4, None, 6), did_read(3, 5, 6, 5))
        told = in_pieces(history, 100)
        self.assertEqual(told[0], "kept")
        deeds = [deeds_of(history, "real")[0][x] for x in told[1]]
        self.assertIn(deeds, [[0, 3], [0, 3, 2]])


if __name__ == "__main__":
    unittest.main()
