import random
import unittest

from helper import ODD_THINGS, PROMISES, random_call, told_alike
from storejudge.carried import carried, implies
from storejudge.errors import JudgeError, NoStore
from storejudge.histories import look_over
from storejudge.makers import make
from storejudge.stores import promise_of
from storejudge.verdicts import judged, verdict_fault
from walk import Walk, picked, walked

PROMISED = {"whole": "real", "late": "row", "looks": "snap", "torn": "thing", "copies": "hand", "loose": None}

WRITE = ("write", 0, 5)
READ = ("read", 0)
ADD = ("add", 0, 1)
SPAN = ("span", 0, 2)
BOTH = ("deal", (("write", 0, 7), ("write", 1, 8)))
DEAL = ("deal", (("read", 1), ("write", 0, 3), ("add", 1, 2), ("read", 0)))
REFUSED = ("refused",)


def random_plans(chance, hands, calls):
    return tuple(tuple(random_call(chance, 3, 3) for _ in range(chance.randrange(calls + 1))) for _ in range(hands))


def tight_plans(chance, hands, calls):
    """Few calls that get in one another's way."""
    crossed = [("deal", (("read", key), ("add", 1 - key, 1))) for key in (0, 1)]
    lot = [READ, SPAN, SPAN, ("write", 1, chance.randrange(5)), WRITE, BOTH, ADD] + crossed
    return tuple(tuple(chance.choice(lot) for _ in range(calls)) for _ in range(hands))


def random_picks(chance, store, plans, count):
    """Picks that refuse few deeds, as many as moves can be made, of any size and on either side of 0."""
    walk = Walk(store, plans)
    picks = []
    while len(picks) < count and walk.moves():
        moves = walk.moves()
        liked = [place for place, move in enumerate(moves) if move[0] != "refuse" or chance.randrange(8) == 0]
        place = chance.choice(liked or [0])
        walk.made.append(moves[place])
        picks.append(place + len(moves) * chance.choice([0, 0, -1, 5, -10 ** 50, 10 ** 80]))
    return picks


class Stores(unittest.TestCase):
    """[41]: the stores and their promises, and what is none."""

    def test_promises(self):
        for store, promise in PROMISED.items():
            self.assertEqual(told_alike(self, promise_of, (store,)), promise)
            self.assertEqual(told_alike(self, make, (store, (), []))[0], ())

    def test_no_store(self):
        wrong = [
            "wholes", "whol", "Whole", "WHOLE", "whole ", " late", "latex", "lat", "Looks", "look", "tor", "torn\n",
            "copy", "copiess", "loos", "Loose", "real", "row", "snap", "thing", "hand", "", " ", "whole late",
            ("whole",), ["whole"], {"whole": 1}, b"whole",
        ]
        for thing in wrong + ODD_THINGS:
            with self.assertRaises(NoStore, msg=thing):
                promise_of(thing)
            for plans, picks in [((), []), (((WRITE,),), [0, 1]), (None, None)]:
                with self.assertRaises(NoStore, msg=thing):
                    make(thing, plans, picks)
        self.assertTrue(issubclass(NoStore, JudgeError))


class Moves(unittest.TestCase):
    """[41], [42]: plans, picks, moves and times."""

    def told(self, store, plans, picks, *history):
        for lot in (list(picks), tuple(picks)):
            told = told_alike(self, make, (store, plans, lot))
            self.assertIsInstance(told, tuple)
            self.assertEqual(len(told), 2)
            self.assertEqual(told[0], history)
            self.assertEqual(told, walked(store, PROMISED[store], plans, picks))
        return told[1]

    def test_no_hand_and_no_calls(self):
        for store in PROMISED:
            for plans in [(), ((),), ((), (), (), (), (), ())]:
                for picks in [[], [0], [3, -1, 10 ** 60]]:
                    rows = self.told(store, plans, picks)
                    expected = {None: None, "real": [()], "row": [()], "snap": [()], "thing": [], "hand": []}
                    self.assertEqual(rows, expected[PROMISED[store]])

    def test_no_picks(self):
        for store in PROMISED:
            self.told(store, ((WRITE,), (READ,)), [])

    def test_the_list_of_moves_by_the_whole_store(self):
        plans = ((WRITE,), (READ, ADD))
        # begin 0, begin 1: both; then work 0, work 1, refuse 0, refuse 1.
        begun = ((0, 0, None, WRITE, None), (1, 1, None, READ, None))
        self.assertEqual(self.told("whole", plans, [0, 0], *begun), [()])
        self.assertEqual(self.told("whole", plans, [0, 0, 0], *begun), [(0,)])
        self.assertEqual(self.told("whole", plans, [0, 0, 1], *begun), [(1,)])
        self.assertEqual(self.told("whole", plans, [0, 0, 2], (0, 0, 2, WRITE, REFUSED), begun[1]), [()])
        self.assertEqual(self.told("whole", plans, [0, 0, 3], begun[0], (1, 1, 2, READ, REFUSED)), [()])
        self.assertEqual(self.told("whole", plans, [0, 0, 4], *begun), [(0,)])
        # Behind work 0: work 1, end 0, refuse 1.
        self.told("whole", plans, [0, 0, 0, 1], (0, 0, 3, WRITE, ("done",)), begun[1])
        self.told("whole", plans, [0, 0, 0, 2], begun[0], (1, 1, 3, READ, REFUSED))
        self.assertEqual(self.told("whole", plans, [0, 0, 0, 0], *begun), [(0, 1)])
        # Then end 0, end 1; behind end 1 begin 1 stands ahead of end 0.
        self.told("whole", plans, [0, 0, 0, 0, 1, 0], begun[0], (1, 1, 4, READ, ("got", 5)), (1, 5, None, ADD, None))
        self.told("whole", plans, [0, 0, 0, 0, 1, 1], (0, 0, 5, WRITE, ("done",)), (1, 1, 4, READ, ("got", 5)))

    def test_the_order_of_begins_is_told(self):
        self.told("whole", ((WRITE,), (READ,)), [1, 0], (1, 0, None, READ, None), (0, 1, None, WRITE, None))

    def test_picks_are_taken_by_how_many_there_are(self):
        plans = ((WRITE,), (READ,))
        begun = [(0, 0, None, WRITE, None), (1, 0, None, READ, None)]
        for pick in [0, 2, -2, 10 ** 100, -10 ** 100, 4 * 10 ** 399]:
            self.told("whole", plans, [pick], begun[0])
            self.told("whole", plans, [pick + 1], begun[1])
            self.told("whole", plans, [pick - 1], begun[1])

    def test_picks_that_are_left_make_no_move(self):
        history = ((0, 0, 2, WRITE, ("done",)),)
        for count in (0, 1, 5, 300):
            self.told("whole", ((WRITE,),), [0, 0, 0] + [7] * count, *history)

    def test_what_never_ended(self):
        self.told("whole", ((WRITE,),), [0], (0, 0, None, WRITE, None))
        self.assertEqual(self.told("whole", ((WRITE,),), [0, 0], (0, 0, None, WRITE, None)), [(0,)])

    def test_a_hand_goes_on_behind_a_refusal(self):
        self.told("whole", ((WRITE, READ),), [0, 1, 0, 0, 0], (0, 0, 1, WRITE, REFUSED), (0, 2, 4, READ, ("got", 0)))

    def test_six_hands_with_ten_calls(self):
        chance = random.Random(41)
        for store in PROMISED:
            plans = tuple(tuple(random_call(chance, 8, 3) for _ in range(10)) for _ in range(6))
            picks = [chance.choice([1, -1]) * chance.randrange(10 ** 30) for _ in range(400)]
            told = told_alike(self, make, (store, plans, picks))
            look_over(told[0])
            self.assertEqual(told, make(store, plans, tuple(picks)))
            if PROMISED[store]:
                self.assertIsNone(verdict_fault(told[0], PROMISED[store], ("kept", told[1])))

    def test_somewhat_beyond_the_bounds_nothing_is_refused(self):
        chance = random.Random(411)
        for store in PROMISED:
            plans = ((READ,) * 12,) * 7
            told = make(store, plans, [chance.randrange(1000) for _ in range(600)])
            self.assertGreater(len(told[0]), 60)

    def test_the_history_is_by_the_plans(self):
        chance = random.Random(412)
        for store in PROMISED:
            for _ in range(20):
                plans = random_plans(chance, 3, 4)
                history, _ = make(store, plans, random_picks(chance, store, plans, 40))
                for hand, plan in enumerate(plans):
                    calls = tuple(deed[3] for deed in history if deed[0] == hand)
                    self.assertEqual(calls, plan[:len(calls)])
                self.assertEqual([deed[1] for deed in history], sorted(deed[1] for deed in history))


class Does(unittest.TestCase):
    """[43] to [46]: what each store does, move by move, and its rows."""

    def told(self, store, plans, named, history, rows):
        picks = picked(store, plans, named)
        self.assertEqual(told_alike(self, make, (store, plans, picks)), (history, rows))
        self.assertEqual(walked(store, PROMISED[store], plans, picks), (history, rows))
        if rows is not None:
            self.assertIsNone(verdict_fault(history, PROMISED[store], ("kept", rows)))
        return history

    def moves_behind(self, store, plans, named, expected):
        """Each of the expected moves, in this order, is what the pick of its place makes."""
        picks = picked(store, plans, named)
        walk = Walk(store, plans)
        walk.made.extend(named)
        self.assertEqual(walk.moves(), expected)
        for place in range(len(expected)):
            told = make(store, plans, picks + [place])
            self.assertEqual(told, walked(store, PROMISED[store], plans, picks + [place]))

    def test_whole(self):
        self.told("whole", ((ADD,), (DEAL,), (SPAN,)), [
            ("begin", 0), ("begin", 1), ("begin", 2), ("work", 1, 0), ("work", 2, 0), ("work", 0, 0), ("end", 2),
            ("end", 0), ("end", 1),
        ], (
            (0, 0, 7, ADD, ("got", 4)), (1, 1, 8, DEAL, ("each", (("got", 0), ("done",), ("got", 2), ("got", 3)))),
            (2, 2, 6, SPAN, ("all", (3, 2))),
        ), [(1, 2, 0)])

    def test_whole_with_a_worked_deed_that_never_ended(self):
        self.told("whole", ((ADD,), (READ,), (READ,)), [
            ("begin", 0), ("work", 0, 0), ("begin", 1), ("begin", 2), ("work", 2, 0), ("work", 1, 0), ("end", 1),
        ], ((0, 0, None, ADD, None), (1, 2, 6, READ, ("got", 1)), (2, 3, None, READ, None)), [(0, 2, 1)])

    def test_torn(self):
        # The span reads key 0 ahead of the deal's writes and key 1 behind them; keys are worked in any order.
        self.told("torn", ((SPAN,), (DEAL,)), [
            ("begin", 0), ("begin", 1), ("work", 0, 0), ("work", 1, 1), ("work", 1, 0), ("end", 1), ("work", 0, 1),
            ("end", 0),
        ], (
            (0, 0, 7, SPAN, ("all", (0, 2))),
            (1, 1, 5, DEAL, ("each", (("got", 0), ("done",), ("got", 2), ("got", 3)))),
        ), [(0, 1), (1, 0)])

    def test_torn_parts_come_in_their_order(self):
        deal = ("deal", (("write", 1, 4), ("swap", 0, 0, 6), ("add", 1, 1), ("swap", 0, 6, 7)))
        self.told("torn", ((deal,), (READ,)), [
            ("begin", 0), ("begin", 1), ("work", 0, 1), ("work", 1, 0), ("work", 0, 0), ("end", 0), ("end", 1),
        ], (
            (0, 0, 5, deal, ("each", (("done",), ("yes",), ("got", 5), ("yes",)))), (1, 1, 6, READ, ("got", 0)),
        ), [(1, 0), (0,)])

    def test_torn_half_worked(self):
        self.told("torn", ((BOTH,), (SPAN,)), [
            ("begin", 0), ("work", 0, 1), ("begin", 1), ("work", 1, 1), ("work", 1, 0), ("end", 1),
        ], ((0, 0, None, BOTH, None), (1, 2, 5, SPAN, ("all", (0, 8)))), [(1,), (0, 1)])

    def test_torn_moves(self):
        plans = ((("span", 2, 5),), (("deal", (("read", 7), ("read", 1))),))
        begun = [("begin", 0), ("begin", 1)]
        self.moves_behind("torn", plans, begun, [
            ("work", 0, 2), ("work", 0, 3), ("work", 0, 4), ("work", 1, 1), ("work", 1, 7), ("refuse", 0),
            ("refuse", 1),
        ])
        self.moves_behind("torn", plans, begun + [("work", 0, 3), ("work", 1, 7), ("work", 1, 1)], [
            ("work", 0, 2), ("work", 0, 4), ("end", 1),
        ])

    def test_loose(self):
        # Two adds: each tells its answer ahead of what the other one lays. So an add is lost.
        history = self.told("loose", ((ADD,), (ADD,)), [
            ("begin", 0), ("begin", 1), ("work", 0, 0), ("work", 1, 0), ("work", 0, 0), ("work", 1, 0), ("end", 0),
            ("end", 1),
        ], ((0, 0, 6, ADD, ("got", 1)), (1, 1, 7, ADD, ("got", 1))), None)
        self.assertEqual(judged(history, "any", 5000)[0], "broken")
        self.assertEqual(judged(history, "snap", 5000)[0], "broken")

    def test_loose_lays_what_was_left_then(self):
        deal = ("deal", (("add", 0, 1), ("swap", 1, 0, 9), ("swap", 2, 5, 6)))
        self.told("loose", ((deal, SPAN), (("write", 1, 4),)), [
            ("begin", 0), ("begin", 1), ("work", 0, 0), ("work", 1, 0), ("work", 1, 0), ("end", 1), ("work", 0, 0),
            ("end", 0), ("begin", 0), ("work", 0, 0), ("work", 0, 0), ("end", 0),
        ], (
            (0, 0, 7, deal, ("each", (("got", 1), ("yes",), ("no",)))), (1, 1, 5, ("write", 1, 4), ("done",)),
            (0, 8, 11, SPAN, ("all", (1, 9))),
        ), None)

    def test_loose_moves(self):
        plans = ((READ,), (ADD,))
        begun = [("begin", 0), ("begin", 1)]
        self.moves_behind("loose", plans, begun, [("work", 0, 0), ("work", 1, 0), ("refuse", 0), ("refuse", 1)])
        self.moves_behind("loose", plans, begun + [("work", 0, 0)], [("work", 0, 0), ("work", 1, 0), ("refuse", 1)])
        self.moves_behind("loose", plans, begun + [("work", 0, 0)] * 2, [("work", 1, 0), ("end", 0), ("refuse", 1)])

    def test_looks(self):
        # Each reads a key ahead of what the other one lays there: skewed, but a snap.
        one = ("deal", (("read", 0), ("write", 1, 1)))
        two = ("deal", (("read", 1), ("write", 0, 1)))
        history = self.told("looks", ((one, READ), (two,)), [
            ("begin", 0), ("begin", 1), ("work", 1, 0), ("work", 0, 0), ("end", 0), ("begin", 0), ("work", 0, 0),
            ("end", 1), ("end", 0),
        ], (
            (0, 0, 4, one, ("each", (("got", 0), ("done",)))), (1, 1, 7, two, ("each", (("got", 0), ("done",)))),
            (0, 5, 8, READ, ("got", 0)),
        ), [(2, 0, 1, 4, 3)])
        self.assertEqual(judged(history, "any", 5000)[0], "broken")

    def test_looks_writes_alone_have_no_work(self):
        self.told("looks", ((WRITE, SPAN), (BOTH,)), [
            ("begin", 0), ("begin", 1), ("end", 1), ("end", 0), ("begin", 0), ("work", 0, 0), ("end", 0),
        ], (
            (0, 0, 3, WRITE, ("done",)), (1, 1, 2, BOTH, ("each", (("done",), ("done",)))),
            (0, 4, 6, SPAN, ("all", (5, 8))),
        ), [(1, 0, 2)])

    def test_looks_may_not_end_behind_another_lay(self):
        plans = ((ADD, READ), (WRITE,), (("swap", 0, 3, 4),))
        worked = [("begin", 0), ("begin", 1), ("begin", 2), ("work", 0, 0), ("work", 2, 0)]
        self.moves_behind("looks", plans, worked, [
            ("end", 0), ("end", 1), ("end", 2), ("refuse", 0), ("refuse", 1), ("refuse", 2),
        ])
        # Behind the lay of hand 1 the add may only be refused; the swap left nothing, so it may end.
        self.moves_behind("looks", plans, worked + [("end", 1)], [("end", 2), ("refuse", 0), ("refuse", 2)])
        ended = [("end", 1), ("refuse", 0), ("end", 2), ("begin", 0), ("work", 0, 0), ("end", 0)]
        self.told("looks", plans, worked + ended, (
            (0, 0, 6, ADD, REFUSED), (1, 1, 5, WRITE, ("done",)), (2, 2, 7, ("swap", 0, 3, 4), ("no",)),
            (0, 8, 10, READ, ("got", 5)),
        ), [(1, 0, 2)])

    def test_looks_may_end_where_the_lay_was_ahead_of_its_work_or_on_another_key(self):
        plans = ((ADD,), (WRITE, ("write", 1, 1)))
        named = [("begin", 0), ("begin", 1), ("end", 1), ("work", 0, 0), ("begin", 1), ("end", 1), ("end", 0)]
        self.told("looks", plans, named, (
            (0, 0, 6, ADD, ("got", 6)), (1, 1, 2, WRITE, ("done",)), (1, 4, 5, ("write", 1, 1), ("done",)),
        ), [(2, 0, 3, 1)])

    def test_looks_never_ended_come_to_nothing(self):
        self.told("looks", ((ADD,), (READ,)), [
            ("begin", 0), ("work", 0, 0), ("begin", 1), ("work", 1, 0), ("end", 1),
        ], ((0, 0, None, ADD, None), (1, 2, 4, READ, ("got", 0))), [(1,)])

    def test_looks_moves(self):
        plans = ((READ,), (WRITE,), (BOTH,), (DEAL,))
        begun = [("begin", hand) for hand in range(4)]
        self.moves_behind("looks", plans, begun, [
            ("work", 0, 0), ("work", 3, 0), ("end", 1), ("end", 2), ("refuse", 0), ("refuse", 1), ("refuse", 2),
            ("refuse", 3),
        ])

    def test_late(self):
        # Hand 1 reads what was there ahead of the write; it catches up, and reads it.
        self.told("late", ((WRITE,), (READ, READ)), [
            ("begin", 0), ("work", 0, 0), ("end", 0), ("begin", 1), ("work", 1, 0), ("end", 1), ("catch", 1),
            ("begin", 1), ("work", 1, 0), ("end", 1),
        ], (
            (0, 0, 2, WRITE, ("done",)), (1, 3, 5, READ, ("got", 0)), (1, 7, 9, READ, ("got", 5)),
        ), [(1, 0, 2)])

    def test_late_calls_that_may_change_are_done_at_the_logs_end(self):
        swap = ("swap", 0, 5, 6)
        self.told("late", ((WRITE, READ), (swap, READ), (READ,)), [
            ("begin", 0), ("work", 0, 0), ("end", 0), ("begin", 1), ("begin", 2), ("work", 1, 0), ("end", 1),
            ("begin", 0), ("work", 0, 0), ("end", 0), ("begin", 1), ("work", 1, 0), ("end", 1), ("work", 2, 0),
            ("end", 2),
        ], (
            (0, 0, 2, WRITE, ("done",)), (1, 3, 6, swap, ("yes",)), (2, 4, 14, READ, ("got", 0)),
            (0, 7, 9, READ, ("got", 5)), (1, 10, 12, READ, ("got", 6)),
        ), [(2, 0, 3, 1, 4)])

    def test_late_like_ones_by_their_works_and_never_ended_ones(self):
        self.told("late", ((READ,), (READ,), (READ,), (WRITE,)), [
            ("begin", 0), ("begin", 1), ("begin", 2), ("begin", 3), ("work", 3, 0), ("work", 1, 0), ("work", 0, 0),
            ("work", 2, 0), ("end", 0), ("end", 1),
        ], (
            (0, 0, 8, READ, ("got", 0)), (1, 1, 9, READ, ("got", 0)), (2, 2, None, READ, None),
            (3, 3, None, WRITE, None),
        ), [(1, 0, 3)])

    def test_late_moves(self):
        plans = ((WRITE,), (), (READ, ADD))
        self.moves_behind("late", plans, [("begin", 0), ("work", 0, 0)], [
            ("begin", 2), ("end", 0), ("catch", 1), ("catch", 2),
        ])
        worked = [("begin", 0), ("work", 0, 0), ("begin", 2), ("catch", 1), ("work", 2, 0)]
        self.moves_behind("late", plans, worked, [("end", 0), ("end", 2), ("catch", 2)])
        worked += [("end", 2), ("begin", 2), ("work", 2, 0)]
        self.moves_behind("late", plans, worked, [("end", 0), ("end", 2), ("catch", 0), ("catch", 1)])

    def test_copies(self):
        # Each hand sees its own write last.
        six = ("write", 0, 6)
        self.told("copies", ((WRITE, READ), (six, READ)), [
            ("begin", 0), ("work", 0, 0), ("end", 0), ("begin", 1), ("work", 1, 0), ("end", 1), ("bring", 0, 1),
            ("bring", 1, 0), ("begin", 0), ("begin", 1), ("work", 0, 0), ("work", 1, 0), ("end", 1), ("end", 0),
        ], (
            (0, 0, 2, WRITE, ("done",)), (1, 3, 5, six, ("done",)), (0, 8, 13, READ, ("got", 6)),
            (1, 9, 12, READ, ("got", 5)),
        ), [(0, 1, 2), (1, 0, 2)])

    def test_copies_what_was_not_brought_comes_last_by_its_works(self):
        self.told("copies", ((ADD,), (ADD, READ), (ADD,)), [
            ("begin", 0), ("begin", 1), ("begin", 2), ("work", 2, 0), ("work", 0, 0), ("work", 1, 0), ("end", 1),
            ("bring", 1, 0), ("begin", 1), ("work", 1, 0), ("end", 0), ("end", 1),
        ], (
            (0, 0, 10, ADD, ("got", 1)), (1, 1, 6, ADD, ("got", 1)), (2, 2, None, ADD, None),
            (1, 8, 11, READ, ("got", 2)),
        ), [(0, 2, 1), (1, 0, 3, 2), (2, 0, 1)])

    def test_copies_a_swap_is_done_anew_on_each_stand(self):
        swap = ("swap", 0, 5, 6)
        self.told("copies", ((WRITE, READ), (swap, READ)), [
            ("begin", 0), ("work", 0, 0), ("end", 0), ("begin", 1), ("work", 1, 0), ("end", 1), ("bring", 0, 1),
            ("begin", 0), ("work", 0, 0), ("end", 0), ("bring", 1, 0), ("begin", 1), ("work", 1, 0), ("end", 1),
        ], (
            (0, 0, 2, WRITE, ("done",)), (1, 3, 5, swap, ("no",)), (0, 7, 9, READ, ("got", 6)),
            (1, 11, 13, READ, ("got", 5)),
        ), [(0, 1, 2), (1, 0, 2)])

    def test_copies_own_deeds_that_never_ended(self):
        self.told("copies", ((ADD,), (READ,), (), (ADD,)), [
            ("begin", 0), ("work", 0, 0), ("begin", 1), ("bring", 1, 0), ("work", 1, 0), ("begin", 3), ("refuse", 3),
        ], ((0, 0, None, ADD, None), (1, 2, None, READ, None), (3, 5, 6, ADD, REFUSED)), [(0,), (0,)])

    def test_copies_moves(self):
        plans = ((ADD, ADD), (), (WRITE, READ))
        worked = [("begin", 0), ("work", 0, 0), ("begin", 2), ("work", 2, 0)]
        self.moves_behind("copies", plans, worked, [
            ("end", 0), ("end", 2), ("bring", 0, 2), ("bring", 1, 0), ("bring", 1, 2), ("bring", 2, 0),
        ])
        worked += [("end", 0), ("begin", 0), ("work", 0, 0), ("bring", 1, 0), ("bring", 0, 2), ("bring", 2, 0)]
        self.moves_behind("copies", plans, worked, [
            ("end", 0), ("end", 2), ("bring", 1, 0), ("bring", 1, 2), ("bring", 2, 0),
        ])
        worked += [("bring", 1, 0), ("bring", 2, 0), ("end", 2), ("begin", 2), ("work", 2, 0)]
        self.moves_behind("copies", plans, worked, [("end", 0), ("end", 2), ("bring", 1, 2)])

    def test_held_against_a_walk(self):
        chance = random.Random(43)
        for store in PROMISED:
            words = {}
            for number in range(60):
                plans = random_plans(chance, chance.randrange(1, 5), 4)
                picks = random_picks(chance, store, plans, chance.randrange(60))
                told = make(store, plans, picks)
                self.assertEqual(told, walked(store, PROMISED[store], plans, picks), (store, plans, picks))
                for deed in told[0]:
                    word = deed[4] if deed[4] in (None, REFUSED) else "ended"
                    words[word] = words.get(word, 0) + 1
            self.assertGreater(min(words[word] for word in (None, REFUSED, "ended")), 10, (store, words))


class Keeps(unittest.TestCase):
    """[46] and [3]: what a store does keeps its promise."""

    def test_rows_without_fault(self):
        chance = random.Random(46)
        for store, promise in PROMISED.items():
            for number in range(120):
                plans = random_plans(chance, chance.randrange(7), chance.choice([3, 10]))
                picks = [chance.randrange(-100, 100) for _ in range(chance.choice([30, 100, 400]))]
                history, rows = told_alike(self, make, (store, plans, picks))
                look_over(history)
                if promise is None:
                    self.assertIsNone(rows)
                    continue
                self.assertIsInstance(rows, list)
                self.assertTrue(all(isinstance(row, tuple) for row in rows))
                self.assertIsNone(verdict_fault(history, promise, ("kept", rows)))
                for weak in PROMISES:
                    if implies(promise, weak):
                        less = carried(history, promise, rows, weak)
                        self.assertIsNone(verdict_fault(history, weak, ("kept", less)))

    def test_judged_not_broken_and_no_stronger_promise(self):
        chance = random.Random(461)
        for store, promise in PROMISED.items():
            broken = {}
            for number in range(60):
                plans = tight_plans(chance, 3, 3)
                history = make(store, plans, random_picks(chance, store, plans, 70))[0]
                for one in PROMISES:
                    if judged(history, one, 2000)[0] == "broken":
                        broken[one] = True
            for one in PROMISES:
                if promise is not None and implies(promise, one):
                    self.assertNotIn(one, broken)
            if store != "whole":
                self.assertIn("real", broken, store)
            if store == "loose":
                self.assertTrue({"any", "snap"} <= set(broken))

    def test_the_list_is_the_askers_own(self):
        rows = make("whole", ((WRITE,),), [0, 0, 0])[1]
        rows.clear()
        self.assertEqual(make("whole", ((WRITE,),), [0, 0, 0])[1], [(0,)])


if __name__ == "__main__":
    unittest.main()
