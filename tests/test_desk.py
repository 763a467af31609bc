import random
import unittest

from helper import KEEPS, ODD_THINGS, PROMISES, did_read, did_write, random_history
from storejudge.desk import Desk
from storejudge.errors import JudgeError, NoHistory, NoLine, NoPromise, NoStore, NoText
from storejudge.groups import groups
from storejudge.histories import of_hand
from storejudge.leasts import least
from storejudge.makers import make
from storejudge.promises import problems_of
from storejudge.quiets import pieces
from storejudge.texts import read_history, read_paper, read_row, show_history, show_paper
from storejudge.verdicts import judged, verdict_fault

STALE = (did_write(0, 0, 1, 5), did_read(1, 2, 3, 0))
FORTY = "1234567890" * 4


def deeds_rows(history):
    return show_history(history).split("\n") if history else []


def desk_of(history):
    desk = Desk()
    for row in deeds_rows(history):
        desk.say("deed " + row)
    return desk


def worded(word, numbers):
    return " ".join([word] + [str(number) for number in numbers])


def plans_of(history):
    hands = max([deed[0] for deed in history], default=-1) + 1
    return tuple(tuple(history[number][3] for number in of_hand(history, hand)) for hand in range(hands))


class Told(unittest.TestCase):
    """[50]: what the desk answers."""

    def says(self, desk, row, *expected):
        told = desk.say(row)
        self.assertEqual(told, list(expected), row)
        self.assertIsInstance(told, list)
        for text in told:
            self.assertIsInstance(text, str)
            self.assertNotIn("\n", text)
        return told

    def test_empty_at_first(self):
        desk = Desk()
        for row in ("history", "pieces", "groups", "make whole", "make loose 1 2 3", "clear", "history"):
            self.says(desk, row)
        for promise in PROMISES:
            rows = [] if promise in ("hand", "thing", "kept") else ["row"]
            self.says(desk, f"judge {promise} 1", "kept", *rows)
        self.says(desk, "least real 0 1", "row")

    def test_deed_history_clear(self):
        desk = Desk()
        self.says(desk, "deed 1 4 5 read 0 = got 0")
        self.says(desk, "deed 0 0 1 deal ( write 0 5 ) ( read 1 ) = each ( done ) ( got 2 )")
        self.says(desk, "deed 2 2 - span 0 2 = -")
        self.says(desk, "history", "1 4 5 read 0 = got 0",
                  "0 0 1 deal ( write 0 5 ) ( read 1 ) = each ( done ) ( got 2 )", "2 2 - span 0 2 = -")
        self.says(desk, "clear")
        self.says(desk, "history")
        self.says(desk, "deed 1 4 5 read 0 = got 0")
        self.says(desk, "history", "1 4 5 read 0 = got 0")

    def test_judge(self):
        desk = desk_of(STALE)
        told = desk.say("judge real 100")
        self.assertEqual(told[0], "broken 0")
        self.assertIsNone(verdict_fault(STALE, "real", ("broken", 0, read_paper("\n".join(told[1:])))))
        self.says(desk, "judge row 100", "kept", "row 1 0")
        self.says(desk, "judge hand 100", "kept", "row 0", "row 1 0")
        self.says(desk, "judge any 1", "more 0")

    def test_judge_of_a_later_problem(self):
        history = (did_write(0, 0, 1, 1), did_read(1, 2, 3, 7, 4), did_read(2, 4, 5, 1))
        told = desk_of(history).say("judge thing 100")
        self.assertEqual(told[0], "broken 1")
        self.assertEqual(told[1:], show_paper(judged(history, "thing", 100)[2]).split("\n"))

    def test_least(self):
        desk = desk_of(STALE)
        self.says(desk, "least real 0 100", "held 0 1")
        self.says(desk, "least row 0 100", "row 1 0")
        self.says(desk, "least hand 1 100", "row 1 0")
        self.says(desk, "least row 0 1", "more")

    def test_pieces_and_groups(self):
        history = (did_read(1, 4, 5, 0, 7), did_write(0, 0, 1, 5), did_read(1, 2, 3, 0),
                   (2, 6, 9, ("span", 2, 4), ("all", (0, 0))), (3, 7, 8, ("read", 1), ("refused",)))
        desk = desk_of(history)
        self.says(desk, "pieces", "piece 1", "piece 2", "piece 0", "piece 3 4")
        self.says(desk, "groups", "group 0 : 1 2", "group 2 3 : 3", "group 7 : 0")

    def test_make(self):
        desk = desk_of((did_read(2, 4, 5, 0), did_write(0, 6, 7, 1), did_write(0, 0, 1, 5), did_write(2, 8, None, 3)))
        rows = ["0 0 2 write 0 5 = done", "2 3 4 read 0 = refused", "0 5 - write 0 1 = -"]
        self.says(desk, "make whole 0 1 1 1 2 0", *rows)
        self.says(desk, "history", *rows)
        self.says(desk, "make copies")
        self.says(desk, "history")

    def test_make_with_picks_of_any_sign(self):
        history = (did_read(2, 4, 5, 0), did_write(0, 6, 7, 1), did_write(1, 0, 1, 5))
        picks = [-1, 0, 7, -100, 10 ** 39, int(FORTY), -int(FORTY)] * 60
        for store in ("whole", "late", "looks", "torn", "copies", "loose"):
            desk = desk_of(history)
            expected = make(store, plans_of(history), picks)[0]
            self.says(desk, worded("make " + store, picks), *deeds_rows(expected))
            self.says(desk, "history", *deeds_rows(expected))

    def test_held_against_the_rest(self):
        chance = random.Random(50)
        lot = [history for history, _ in KEEPS]
        lot += [random_history(chance, 4, chance.randrange(9), number % 3, keys=4) for number in range(40)]
        for history in lot:
            desk = desk_of(history)
            self.says(desk, "history", *deeds_rows(history))
            self.says(desk, "pieces", *[worded("piece", piece) for piece in pieces(history)])
            self.says(desk, "groups", *[worded("group", keys) + " " + worded(":", numbers)
                                        for keys, numbers in groups(history)])
            for promise in PROMISES:
                for most in (1, 4, 5000):
                    self.judge_like(desk, history, promise, most)
                    for number in range(len(problems_of(history, promise))):
                        self.least_like(desk, history, promise, number, most)
            self.says(desk, "history", *deeds_rows(history))
            store = chance.choice(["whole", "late", "looks", "torn", "copies", "loose"])
            picks = [chance.randrange(-50, 50) for _ in range(chance.randrange(40))]
            expected = make(store, plans_of(history), picks)[0]
            self.says(desk, worded("make " + store, picks), *deeds_rows(expected))
            self.says(desk, "history", *deeds_rows(expected))
            self.assertEqual(read_history("\n".join(desk.say("history"))), expected)

    def judge_like(self, desk, history, promise, most):
        told = desk.say(f"judge {promise} {most}")
        expected = judged(history, promise, most)
        if expected[0] == "kept":
            self.assertEqual(told, ["kept"] + [worded("row", row) for row in expected[1]])
            self.assertEqual([read_row(row) for row in told[1:]], expected[1])
        elif expected[0] == "broken":
            self.assertEqual(told, [f"broken {expected[1]}"] + show_paper(expected[2]).split("\n"))
        else:
            self.assertEqual(told, [f"more {expected[1]}"])

    def least_like(self, desk, history, promise, number, most):
        told = desk.say(f"least {promise} {number} {most}")
        expected = least(problems_of(history, promise)[number][1], most)
        words = {"row": lambda: worded("row", expected[1]), "least": lambda: worded("held", expected[1]),
                 "more": lambda: "more"}
        self.assertEqual(told, [words[expected[0]]()])

    def test_the_lists_are_the_askers_own(self):
        desk = desk_of(STALE)
        for row in ("history", "judge real 100", "judge row 100", "least real 0 100", "pieces", "groups", "clear"):
            told = desk.say(row)
            kept = list(told)
            told.append("x")
            self.assertEqual(desk.say(row), kept)
        desk = desk_of(STALE)
        desk.say("make whole 0 0 0").clear()
        self.assertEqual(len(desk.say("history")), 2)

    def test_two_desks_by_turns(self):
        chance = random.Random(502)
        desks = [Desk(), Desk()]
        lots = [random_history(chance, 3, 8), random_history(chance, 2, 8)]
        for place in range(8):
            for desk, history in zip(desks, lots):
                desk.say("deed " + deeds_rows(history)[place])
                self.says(desk, "history", *deeds_rows(history[:place + 1]))
        desks[0].say("clear")
        self.says(desks[0], "history")
        self.says(desks[1], "history", *deeds_rows(lots[1]))
        self.says(Desk(), "history")


class Refused(unittest.TestCase):
    """[50]: what is refused, by which refusal, and that it changes nothing."""

    HISTORY = STALE + (did_write(2, 4, None, 6, 3),)

    def refuses(self, refusal, *rows):
        for row in rows:
            desk = desk_of(self.HISTORY)
            with self.assertRaises(refusal, msg=repr(row)) as caught:
                desk.say(row)
            self.assertEqual(desk.say("history"), deeds_rows(self.HISTORY), row)
        return caught.exception

    def test_no_line(self):
        self.refuses(NoLine, *[thing for thing in ODD_THINGS if not isinstance(thing, str)])
        self.refuses(NoLine, ["clear"], ("history",), b"clear", {"clear": 1})
        self.refuses(
            NoLine, "", " ", "\n", "\t", "x", "Clear", "CLEAR", "clears", "clea", "clear ", " clear", "clear\n",
            "clear\t",
            "clear 0", "clear clear", "clear  ", "history ", "history 0", " history", "histories", "pieces 0",
            "pieces ",
            "piece", "groups 0", "groups ", "group", "deeds 5 6 7 read 0 = got 0", "Deed 5 6 7 read 0 = got 0",
            " deed 5 6 7 read 0 = got 0", "deed\t5 6 7 read 0 = got 0", "judged real 5", "Judge real 5",
            "judge\nreal 5",
            "leasts real 0 5", "least\treal 0 5", "made whole 1", "Make whole 1", "make\twhole",
            "5 6 7 read 0 = got 0",
            "real", "read 0", "row 0", "0", "-", "=", "kept", "show", "help", "quit",
        )

    def test_no_text(self):
        self.refuses(
            NoText, "deed", "deed ", "deed 5 6 7", "deed 5 6 7 read 0", "deed 5 6 7 read 0 =",
            "deed 5 6 7 read 0 = got",
            "deed 5 6 7 read 0 = got 0 ", "deed  5 6 7 read 0 = got 0", "deed 5 6 7 read 0 = got 0\n", "deed x",
            "deed 5 6 7 read 0 = got 00", "deed 5 6 7  read 0 = got 0", "deed 5 6 7 read 0 = got 0 = got 0",
            "deed deed 5 6 7 read 0 = got 0", "deed 5 6 7 read 0 = got 0\n5 8 9 read 0 = got 0",
            "deed 5 -0 7 read 0 = got 0",
            f"deed 5 6 {FORTY}1 read 0 = got 0", "deed 5 6 7 deal ( read 0 ) = each ( - )",
            "judge", "judge ", "judge real", "judge real ", "judge real 5 ", "judge  real 5", "judge real  5",
            "judge  5",
            "judge real 5 5", "judge real x", "judge real 0", "judge real -1", "judge real 05", "judge real 5\n",
            f"judge real {FORTY}1", "judge real -", "judge 5", "judge 5 real", "judge nothing x", "judge nothing 0",
            "judge nothing", "judge nothing 5 5",
            "least", "least real", "least real 0", "least real 0 5 5", "least real 0 5 ", "least real x 5",
            "least real 0 x",
            "least real 0 0", "least real 0 -5", "least real 00 5", "least real 1 5", "least real -1 5",
            "least hand 3 5",
            "least nothing x 5", "least nothing 0 0", "least nothing 0", "least  real 0 5", f"least real {FORTY} 5",
            "least 0 real 5",
            "make", "make ", "make whole x", "make whole 1 ", "make whole  1", "make whole 1 x", "make whole 01",
            "make whole -",
            "make whole 1 -0", f"make whole {FORTY}1", "make nothing x", "make whole 1\n", "make whole 1,2", "make  1",
        )

    def test_no_promise(self):
        self.refuses(NoPromise, "judge nothing 5", "judge Real 5", "judge reals 5", "judge rea 5", "judge real\t 5",
                     "judge 5 5", "judge whole 5", "judge - 5", "judge real\n 5", "least nothing 0 5",
                     "least REAL 0 5",
                     "least nothing 7 5", "least nothing -1 5", "least whole 0 1")

    def test_no_store(self):
        self.refuses(NoStore, "make nothing", "make nothing 1 2", "make Whole 1", "make wholes", "make real 1",
                     "make whole\t 1", "make 1 2 3", "make -", "make whole\n")

    def test_no_history(self):
        told = self.refuses(NoHistory, "deed 9 6 7 read 0 = got 0", "deed 5 7 6 read 0 = got 0",
                            "deed 5 6 7 read 8 = got 0",
                            "deed 5 6 7 read 0 = done", "deed 5 6 7 read 0 = -", "deed 5 6 - read 0 = got 0",
                            "deed 5 0 7 read 0 = got 0", "deed 5 6 - deal = -", "deed 2 6 7 read 0 = got 0")
        self.assertEqual(told.at, 3)
        desk = Desk()
        for n in range(60):
            desk.say(f"deed 0 {2 * n} {2 * n + 1} read 0 = got 0")
        for row in ("deed 0 200 201 read 0 = got 0", "deed 0 0 1 read 9 = done"):
            with self.assertRaises(NoHistory) as caught:
                desk.say(row)
            self.assertEqual(caught.exception.at, -1)
        self.assertEqual(len(desk.say("history")), 60)

    def test_all_are_refusals(self):
        for kind in (NoLine, NoText, NoPromise, NoStore, NoHistory):
            self.assertTrue(issubclass(kind, JudgeError))

    def test_goes_on_behind_a_refusal(self):
        desk = Desk()
        for row in ("deed 0 0 1 read 0 = got 0", "deed 0 0 1 read 0 = got 0", "x", "deed 0 2 3 write 0 1 = done", None,
                    "make nothing", "judge real 0", "deed 0 4 - read 0 = -"):
            try:
                desk.say(row)
            except JudgeError:
                pass
        self.assertEqual(desk.say("history"), ["0 0 1 read 0 = got 0", "0 2 3 write 0 1 = done", "0 4 - read 0 = -"])


if __name__ == "__main__":
    unittest.main()
