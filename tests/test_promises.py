import random
import unittest

from helper import ODD_THINGS, own_list, random_history
from storejudge.calls import keys_of, left_by, may_change, part_on
from storejudge.errors import JudgeError, NoHistory, NoPromise
from storejudge.histories import really_ahead
from storejudge.problems import is_problem
from storejudge.promises import PROMISES, deeds_of, problems_of
from storejudge.store import FIRST

READ = (("read", 0), ("got", 1))
WRITE = (("write", 0, 1), ("done",))
ADD = (("add", 1, 2), ("got", 2))
SWAP_YES = (("swap", 0, 1, 5), ("yes",))
SWAP_NO = (("swap", 1, 9, 7), ("no",))
SPAN = (("span", 0, 2), ("all", (5, 2)))
WRITES = (("deal", (("write", 1, 3), ("write", 3, 4), ("write", 1, 6))), ("each", (("done",),) * 3))
MIXED = (("deal", (("read", 3), ("add", 0, 1), ("write", 0, 8))), ("each", (("got", 4), ("got", 6), ("done",))))


def deed(hand, begin, end, told):
    return (hand, begin, end) + (told if end is not None else (told[0], None))


def refused(hand, begin, end, told):
    return (hand, begin, end, told[0], ("refused",))


# Listed in another order than by begins; 2 is refused, 1 and 8 never ended.
HISTORY = (
    deed(1, 10, 20, READ),            # 0
    deed(2, 30, None, WRITE),         # 1
    refused(0, 21, 24, MIXED),        # 2
    deed(0, 5, 11, WRITE),            # 3
    deed(1, 25, 28, SWAP_YES),        # 4
    deed(0, 26, 29, SWAP_NO),         # 5
    deed(2, 12, 22, ADD),             # 6
    deed(0, 35, 45, WRITES),          # 7
    deed(3, 36, None, MIXED),         # 8
    deed(1, 31, 40, SPAN),            # 9
    deed(1, 50, 60, MIXED),           # 10
)
# Those that take part, by their begins.
BY_BEGIN = (3, 0, 6, 4, 5, 1, 9, 7, 8, 10)


def item(number, answered=True):
    call, answer = HISTORY[number][3:]
    return (call, answer if answered else None, "may" if HISTORY[number][2] is None else "must")


class Promises(unittest.TestCase):
    def told(self, promise, names, problems, deeds, history=HISTORY):
        self.assertEqual(own_list(self, problems_of, (history, promise)), list(zip(names, problems, strict=True)))
        self.assertEqual(own_list(self, deeds_of, (history, promise)), deeds)
        for problem in problems:
            self.assertTrue(is_problem(problem))


class Whole(Promises):
    """[30], [31]: real, row, any."""

    ITEMS = tuple(item(number) for number in BY_BEGIN)

    def test_promises(self):
        self.assertEqual(PROMISES, ("real", "row", "any", "snap", "stand", "hand", "thing", "kept"))

    def test_real(self):
        before = []
        for x, a in enumerate(BY_BEGIN):
            for y, b in enumerate(BY_BEGIN):
                if HISTORY[a][2] is not None and HISTORY[a][2] < HISTORY[b][1]:
                    before.append((x, y))
        self.assertIn((0, 2), before)
        self.assertNotIn((0, 1), before)
        self.told("real", [None], [(FIRST, self.ITEMS, tuple(before), ())], [BY_BEGIN])

    def test_row(self):
        before = ((0, 4), (0, 7), (1, 3), (1, 6), (1, 9), (2, 5), (3, 6), (3, 9), (4, 7), (6, 9))
        self.told("row", [None], [(FIRST, self.ITEMS, before, ())], [BY_BEGIN])

    def test_any(self):
        self.told("any", [None], [(FIRST, self.ITEMS, (), ())], [BY_BEGIN])

    def test_none_takes_part(self):
        for history in [(), (refused(0, 0, 1, READ), refused(1, 2, 3, WRITE))]:
            for promise in ("real", "row", "any", "snap", "stand"):
                self.told(promise, [None], [(FIRST, (), (), ())], [()], history)
            for promise in ("hand", "thing", "kept"):
                self.told(promise, [], [], [], history)


class Snap(Promises):
    """[31]: snap and stand."""

    ITEMS = (
        (("lay", ((0, 1),)), ("done",), "must"),            # 0: of 3
        (("look", ("read", 0)), ("got", 1), "must"),        # 1: of 0
        (("look", ADD[0]), ADD[1], "must"),                 # 2: of 6
        (("lay", ((1, 2),)), ("done",), "must"),            # 3
        (("look", SWAP_YES[0]), ("yes",), "must"),          # 4: of 4
        (("lay", ((0, 5),)), ("done",), "must"),            # 5
        (("look", SWAP_NO[0]), ("no",), "must"),            # 6: of 5
        (WRITE[0], None, "may"),                            # 7: of 1
        (("look", SPAN[0]), SPAN[1], "must"),               # 8: of 9
        (("lay", ((1, 6), (3, 4))), ("done",), "must"),     # 9: of 7
        (MIXED[0], None, "may"),                            # 10: of 8
        (("look", MIXED[0]), MIXED[1], "must"),             # 11: of 10
        (("lay", ((0, 8),)), ("done",), "must"),            # 12
    )
    DEEDS = (3, 0, 6, 6, 4, 4, 5, 1, 9, 7, 8, 10, 10)

    def test_snap(self):
        before = ((2, 3), (4, 5), (11, 12))
        apart = ((2, 3, 9), (4, 5, 0), (4, 5, 7), (4, 5, 10), (4, 5, 12),
                 (11, 12, 0), (11, 12, 5), (11, 12, 7), (11, 12, 10))
        self.told("snap", [None], [(FIRST, self.ITEMS, before, apart)], [self.DEEDS])

    def test_stand(self):
        self.told("stand", [None], [(FIRST, self.ITEMS, (), ())], [self.DEEDS])

    def test_writes_have_no_look(self):
        one = (("deal", (("write", 4, 2),)), ("each", (("done",),)))
        both = (("deal", (("write", 4, 2), ("read", 4))), ("each", (("done",), ("got", 2))))
        history = (deed(0, 0, 1, one), deed(0, 2, 3, both), deed(0, 4, 5, (("write", 4, 3), ("done",))))
        items = ((("lay", ((4, 2),)), ("done",), "must"), (("look", both[0]), both[1], "must"),
                 (("lay", ((4, 2),)), ("done",), "must"), (("lay", ((4, 3),)), ("done",), "must"))
        self.told("snap", [None], [(FIRST, items, ((1, 2),), ((1, 2, 0), (1, 2, 3)))], [(0, 1, 1, 2)], history)

    def test_a_deed_that_never_ended_and_does_not_change_the_key(self):
        never = (("deal", (("read", 0), ("write", 1, 5))), None)
        for other, key, held in [(never, 0, False), (never, 1, True), ((("read", 0), None), 0, False),
                                 ((("span", 0, 2), None), 0, False), ((("swap", 0, 3, 4), None), 0, True),
                                 ((("add", 2, 3), None), 0, False), ((("add", 2, 3), None), 2, True)]:
            history = (deed(0, 0, 5, (("add", key, 1), ("got", 1))), deed(1, 1, None, other))
            apart = problems_of(history, "snap")[0][1][3]
            self.assertEqual(apart, ((0, 1, 2),) if held else ())

    def test_sixty_deeds(self):
        history = tuple(deed(k % 6, 2 * k, 2 * k + 1, (("add", 0, 1), ("got", k + 1))) for k in range(60))
        problem = problems_of(history, "snap")[0][1]
        self.assertEqual((len(problem[1]), len(problem[2]), len(problem[3])), (120, 60, 60 * 59))
        for promise in PROMISES:
            for _, problem in problems_of(history, promise):
                self.assertTrue(is_problem(problem))


class Hand(Promises):
    """[31]: hand."""

    def test_hands(self):
        # Of other hands' deeds: 3, 6, 4, 5, 1, 7, 8 and 10 may change.
        lots = [
            (0, (3, 6, 4, 5, 1, 7, 8, 10), ((0, 3), (0, 5), (1, 4), (2, 7), (3, 5))),
            (1, (3, 0, 6, 4, 5, 1, 9, 7, 8, 10),
             ((0, 4), (0, 7), (1, 3), (1, 6), (1, 9), (2, 5), (3, 6), (3, 9), (4, 7), (6, 9))),
            (2, (3, 6, 4, 5, 1, 7, 8, 10), ((0, 3), (0, 5), (1, 4), (2, 7), (3, 5))),
            (3, (3, 6, 4, 5, 1, 7, 8, 10), ((0, 3), (0, 5), (1, 4), (2, 7), (3, 5))),
        ]
        problems = []
        for hand, deeds, before in lots:
            items = tuple(item(number, HISTORY[number][0] == hand) for number in deeds)
            problems.append((FIRST, items, before, ()))
        self.told("hand", [0, 1, 2, 3], problems, [deeds for _, deeds, _ in lots])

    def test_hands_whose_deeds_are_all_refused(self):
        history = (deed(4, 0, 1, READ), refused(2, 2, 3, WRITE), deed(1, 4, None, WRITE))
        names = [name for name, _ in problems_of(history, "hand")]
        self.assertEqual(names, [1, 4])
        self.assertEqual(deeds_of(history, "hand"), [(2,), (0, 2)])


class Keys(Promises):
    """[31]: thing and kept."""

    MAY = (("deal", (("add", 0, 1), ("write", 0, 8))), None, "may")
    MUST = (("deal", (("add", 0, 1), ("write", 0, 8))), ("each", (("got", 6), ("done",))), "must")
    WRITTEN = (("deal", (("write", 1, 3), ("write", 1, 6))), ("each", (("done",), ("done",))), "must")

    def test_thing(self):
        lots = [
            (0, (3, 0, 4, 1, 9, 8, 10),
             (item(3), item(0), item(4), item(1), (("read", 0), ("got", 5), "must"), self.MAY, self.MUST)),
            (1, (6, 5, 9, 7), (item(6), item(5), (("read", 1), ("got", 2), "must"), self.WRITTEN)),
            (3, (7, 8, 10),
             ((("write", 3, 4), ("done",), "must"), (("read", 3), None, "may"), (("read", 3), ("got", 4), "must"))),
        ]
        problems = []
        for _, deeds, items in lots:
            before = [(x, y) for x, a in enumerate(deeds) for y, b in enumerate(deeds) if really_ahead(HISTORY, a, b)]
            problems.append((FIRST, items, tuple(before), ()))
        self.told("thing", [0, 1, 3], problems, [deeds for _, deeds, _ in lots])

    def test_kept(self):
        lots = [
            (0, (3, 4, 1, 8, 10), (item(3), item(4), item(1), self.MAY, self.MUST)),
            (1, (6, 5, 7), (item(6), item(5), self.WRITTEN)),
            (3, (7,), ((("write", 3, 4), ("done",), "must"),)),
        ]
        problems = [(FIRST, items, (), ()) for _, _, items in lots]
        self.told("kept", [0, 1, 3], problems, [deeds for _, deeds, _ in lots])

    def test_keys_that_are_only_read(self):
        history = (deed(0, 0, 1, (("span", 2, 5), ("all", (0, 0, 0)))), refused(1, 2, 3, (("write", 6, 1), None)))
        self.assertEqual([name for name, _ in problems_of(history, "thing")], [2, 3, 4])
        self.assertEqual(problems_of(history, "kept"), [])
        self.assertEqual(deeds_of(history, "kept"), [])


class Refused(Promises):
    """[30]: NoPromise, behind NoHistory."""

    def test_no_promise(self):
        for ask in (problems_of, deeds_of):
            for thing in ODD_THINGS + ["Real", "real ", "holds", ("real",), ["real"], b"real", PROMISES]:
                with self.assertRaises(NoPromise) as caught:
                    ask(HISTORY, thing)
                self.assertIsInstance(caught.exception, JudgeError)

    def test_no_history_goes_ahead(self):
        for ask in (problems_of, deeds_of):
            for history, at in [(None, -1), ([], -1), ((None,), 0), (HISTORY + (HISTORY[0],), 11)]:
                for promise in PROMISES + ("none", None, []):
                    with self.assertRaises(NoHistory) as caught:
                        ask(history, promise)
                    self.assertEqual(caught.exception.at, at)


def by_the_words(history, promise):
    """[30], [31], word by word: names, items, deeds, pairs and triples."""
    live = sorted([n for n, one in enumerate(history) if one[4] != ("refused",)], key=lambda n: history[n][1])
    word = ["may" if one[2] is None else "must" for one in history]
    frames = []
    if promise in ("real", "row", "any"):
        frames.append((None, [(n, history[n][3], history[n][4]) for n in live]))
    elif promise in ("snap", "stand"):
        lot = []
        for n in live:
            call, answer = history[n][3:]
            if answer is None:
                lot.append((n, call, None))
                continue
            parts = call[1] if call[0] == "deal" else [call]
            if any(one[0] != "write" for one in parts):
                lot.append((n, ("look", call), answer))
            if left_by(call, answer):
                lot.append((n, ("lay", left_by(call, answer)), ("done",)))
        frames.append((None, lot))
    elif promise == "hand":
        for hand in sorted({history[n][0] for n in live}):
            frames.append((hand, [(n, history[n][3], history[n][4] if history[n][0] == hand else None) for n in live
                                  if history[n][0] == hand or may_change(history[n][3])]))
    else:
        for key in range(8):
            lot = [(n,) + part_on(history[n][3], history[n][4], key) for n in live if key in keys_of(history[n][3])]
            lot = [one for one in lot if promise == "thing" or may_change(one[1])]
            if lot:
                frames.append((key, lot))
    told = []
    for name, lot in frames:
        items = tuple((step, answer, word[n]) for n, step, answer in lot)
        deeds = tuple(n for n, _, _ in lot)
        before, apart = set(), set()
        for x, a in enumerate(deeds):
            for y, b in enumerate(deeds):
                if promise in ("real", "thing") and really_ahead(history, a, b):
                    before.add((x, y))
                if promise in ("row", "hand") and history[a][0] == history[b][0] and history[a][1] < history[b][1]:
                    before.add((x, y))
                if promise == "snap" and a == b and items[x][0][0] == "look" and items[y][0][0] == "lay":
                    before.add((x, y))
                    for key, _ in items[y][0][1]:
                        for z, other in enumerate(items):
                            if other[0][0] == "lay" and deeds[z] != a and key in dict(other[0][1]):
                                apart.add((x, y, z))
                            told_part = part_on(other[0], None, key) if other[2] == "may" else None
                            if told_part is not None and may_change(told_part[0]):
                                apart.add((x, y, z))
        told.append((name, (FIRST, items, tuple(sorted(before)), tuple(sorted(apart))), deeds))
    return told


class ByTheWords(Promises):
    """[30], [31]: over histories of many forms."""

    def test_many_histories(self):
        chance = random.Random(31)
        for _ in range(120):
            history = random_history(chance, chance.randrange(1, 5), chance.randrange(9), chance.randrange(3), keys=3)
            for promise in PROMISES:
                told = by_the_words(history, promise)
                names, problems, deeds = [[one[k] for one in told] for k in range(3)]
                self.told(promise, names, problems, deeds, history)


if __name__ == "__main__":
    unittest.main()
