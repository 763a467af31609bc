import random
import unittest

import reader
from helper import (
    ANSWERS, KEEPS, NO_PROBLEMS, ODD_THINGS, PROMISES, did_read, did_write, random_history, random_problem,
    random_tight_problem, told_alike,
)
from storejudge.cased import cased
from storejudge.errors import JudgeError, NoHistory, NoProblem, NoText
from storejudge.histories import look_over
from storejudge.problems import is_problem
from storejudge.promises import problems_of
from storejudge.store import FIRST
from storejudge.texts import (
    read_history, read_paper, read_problem, read_row, show_history, show_paper, show_problem, show_row,
)
from storejudge.verdicts import judged

FORTY = "1234567890" * 4
NO_TEXTS = [thing for thing in ODD_THINGS if not isinstance(thing, str)]

# Words that are no number, and some that are one.
NO_NUMBERS = [
    "00", "01", "-0", "-00", "-01", "+1", "1_0", "--1", "-", "1-", "1.0", "0x1", "1e3", "a", "", "O", "(", "=",
    "0" + FORTY, FORTY + "1", "-" + FORTY + "1", "1\t", "\t1", "1\n", "got", "1,", "'1'",
]
NUMBERS = ["0", "1", "-1", "7", "10", "-10", "1000", FORTY, "-" + FORTY, "9" * 40]

SIGNS = [" ", "\t", "\n", "-", "0", "1", "9", "(", ")", "=", ":", "r", "x", "  ", " 0", " - ", "\n\n", " ( ", " ) "]
WORDS = [
    "read", "write", "add", "swap", "span", "deal", "(", ")", "got", "done", "yes", "no", "all", "each", "refused",
    "-", "=", "0", "1", "2", "-3", "must", "may", "out", "first", "before", "apart", "row", "stands", "ring", "over",
    "at", ":", "cases", "inout", "told", "through", "only", "late", "early", "lay", "look", "", "deal ( )",
    "each ( )",
]


def spoilt(chance, text):
    """A text that is near to this one."""
    for _ in range(chance.choice([1, 1, 1, 2])):
        words = text.split(" ")
        at = chance.randrange(len(words))
        place = chance.randrange(len(text) + 1)
        rows = text.split("\n")
        chance.shuffle(rows)
        text = chance.choice([
            text[:place] + chance.choice(SIGNS) + text[place:],
            text[:place] + text[place + 1:],
            text[:place] + chance.choice(SIGNS) + text[place + 1:],
            " ".join(words[:at] + words[at + 1:]),
            " ".join(words[:at] + [chance.choice(WORDS)] + words[at:]),
            " ".join(words[:at] + [chance.choice(WORDS)] + words[at + 1:]),
            "\n".join(rows),
            "\n".join(rows[:-1]),
            text.upper(),
            with_other_number(chance, words),
            with_other_number(chance, words),
        ])
    return text


def with_other_number(chance, words):
    """The words with another one in the place of a number, if there is one."""
    places = [place for place, word in enumerate(words) if word.lstrip("-").isdigit()]
    told = list(words)
    if places:
        told[chance.choice(places)] = chance.choice(NUMBERS + ["00", "-"])
    return " ".join(told)


def not_promised(text):
    """[49]: items' numbers below 0, a look of a look, look and lay in the row of a deed."""
    return any(word in text for word in ("look look", "look lay"))


class Texts(unittest.TestCase):
    def read_as(self, read, told, check, refusal, text):
        """Holds what is read of a text against what another reader told of it."""
        if told == reader.NO_TEXT:
            with self.assertRaises(NoText, msg=repr(text)):
                read(text)
            return "no text"
        if check(told[1]):
            self.assertEqual(told_alike(self, read, (text,)), told[1])
            return "read"
        with self.assertRaises(refusal, msg=repr(text)) as caught:
            read(text)
        if refusal == NoHistory:
            with self.assertRaises(NoHistory) as other:
                look_over(told[1])
            self.assertEqual(caught.exception.at, other.exception.at)
        return "refused"

    def no_text(self, read, *texts):
        for text in texts:
            with self.assertRaises(NoText, msg=repr(text)):
                read(text)


def is_history(thing):
    try:
        look_over(thing)
    except NoHistory:
        return False
    return True


class Histories(Texts):
    """[47], [49]: histories."""

    def told(self, history, text):
        self.assertEqual(told_alike(self, show_history, (history,)), text)
        self.assertEqual(told_alike(self, read_history, (text,)), history)
        self.assertEqual(reader.history(text), ("read", history))

    def no_history(self, text, at):
        with self.assertRaises(NoHistory, msg=text) as caught:
            read_history(text)
        self.assertEqual(caught.exception.at, at)
        self.assertEqual(reader.history(text)[0], "read")

    def test_no_deed(self):
        self.told((), "")

    def test_each_call_and_answer(self):
        shown = [
            (("read", 0), ("got", -4), "read 0 = got -4"),
            (("write", 1, -3), ("done",), "write 1 -3 = done"),
            (("add", 2, 0), ("got", 0), "add 2 0 = got 0"),
            (("swap", 3, 0, 1), ("yes",), "swap 3 0 1 = yes"),
            (("swap", 3, -1, 10), ("no",), "swap 3 -1 10 = no"),
            (("span", 2, 4), ("all", (5, -6)), "span 2 4 = all 5 -6"),
            (("span", 7, 8), ("all", (0,)), "span 7 8 = all 0"),
            (("deal", (("read", 0),)), ("each", (("got", 4),)), "deal ( read 0 ) = each ( got 4 )"),
            (("deal", (("swap", 0, 1, 2), ("write", 0, 1), ("add", 7, 1), ("swap", 3, 0, 0))),
             ("each", (("yes",), ("done",), ("got", 1), ("no",))),
             "deal ( swap 0 1 2 ) ( write 0 1 ) ( add 7 1 ) ( swap 3 0 0 ) = each ( yes ) ( done ) ( got 1 ) ( no )"),
        ]
        for call, answer, words in shown:
            self.told(((0, 3, 5, call, answer),), "0 3 5 " + words)
            head = words[:words.index("=")]
            self.told(((5, 0, None, call, None),), "5 0 - " + head + "= -")
            self.told(((1, 10, 100, call, ("refused",)),), "1 10 100 " + head + "= refused")

    def test_deeds_in_their_order(self):
        self.told((did_read(1, 4, 5, 0), did_write(0, 0, 1, 5), did_write(2, 2, None, 6, 7)),
                  "1 4 5 read 0 = got 0\n0 0 1 write 0 5 = done\n2 2 - write 7 6 = -")

    def test_long_numbers(self):
        number = int(FORTY)
        self.told(((0, 0, number, ("write", 0, -number), ("done",)),), f"0 0 {FORTY} write 0 -{FORTY} = done")
        self.no_text(read_history, f"0 0 {FORTY}1 write 0 1 = done", f"0 0 1 write 0 -{FORTY}1 = done",
                     f"0 0 1 write 0 {FORTY}1 = done", f"0 0 1 read 0 = got {FORTY}1", f"{FORTY}1 0 1 read 0 = got 1")

    def test_many_histories(self):
        chance = random.Random(47)
        for number in range(200):
            history = random_history(chance, 4, chance.randrange(12), number % 2)
            text = show_history(history)
            self.told(history, text)

    def test_sixty_and_more(self):
        history = tuple(did_read(0, 2 * n, 2 * n + 1, n) for n in range(60))
        self.told(history, "\n".join(f"0 {2 * n} {2 * n + 1} read 0 = got {n}" for n in range(60)))
        self.no_history(show_history(history) + "\n0 200 201 read 0 = got 1", -1)
        self.no_history("\n".join(["9 0 1 read 9 = done"] * 61), -1)
        self.no_text(read_history, show_history(history) + "\n0 200 201 read 0 = got", "\n".join(["x"] * 61))

    def test_numbers_at_each_place(self):
        for frame in ["{} 0 1 read 0 = got 0", "0 {} 1 read 0 = got 0", "0 0 {} read 0 = got 0",
                      "0 0 1 read {} = got 0",
                      "0 0 1 read 0 = got {}", "0 0 1 write 0 {} = done", "0 0 1 add 0 {} = refused",
                      "0 0 1 swap 0 {} 1 = yes", "0 0 1 swap 0 1 {} = no", "0 0 1 span {} 2 = refused",
                      "0 0 1 span 0 {} = all 0 0", "0 0 1 span 0 2 = all 0 {}",
                      "0 0 1 deal ( read {} ) = each ( got 0 )",
                      "0 0 1 deal ( add 0 {} ) = each ( got 0 )", "0 0 1 deal ( read 0 ) = each ( got {} )"]:
            for word in NO_NUMBERS:
                if (word, frame[:6]) != ("-", "0 0 {}"):
                    self.no_text(read_history, frame.format(word))
            for word in NUMBERS:
                text = frame.format(word)
                self.read_as(read_history, reader.history(text), is_history, NoHistory, text)

    def test_no_text(self):
        self.no_text(
            read_history, " ", "\n", "\t", "x", "0", "0 0 1", "0 0 1 read 0", "0 0 1 read 0 =", "0 0 1 read 0 got 0",
            "0 0 1 = got 0", "0 0 1 read = got 0", "0 0 1 read 0 1 = got 0", "0 0 1 write 0 = done",
            "0 0 1 add 0 = got 1",
            "0 0 1 swap 0 1 = yes", "0 0 1 span 0 = all 0", "0 0 1 span 0 1 2 = all 0", "0 0 1 Read 0 = got 0",
            "0 0 1 reads 0 = got 0", "0 0 1 rea 0 = got 0", "0 0 1 0 = got 0", "0 0 1 read 0 = got",
            "0 0 1 read 0 = got 0 0",
            "0 0 1 write 0 1 = done 0", "0 0 1 swap 0 0 1 = maybe", "0 0 1 read 0 = Got 0", "0 0 1 read 0 = 0",
            "0 0 1 read 0 == got 0", "0 0 1 read 0 = = got 0", "0 0 1 read 0 = got 0 =", "0 0 read 0 = got 0",
            "0 - 1 read 0 = got 0", "- 0 1 read 0 = got 0", "0 0 1 read - = got 0", "0 0 1 read 0 = got -",
            "0 0 1 read 0 = - -", "0 0 - read 0 =", "0 0 1 read 0 = refused 0", "0 0 -- read 0 = -",
            "= got 0", "=", "0 = got 0", "0 0 = got 0",
            "0 0 1 read 0 = got 0\n", "\n0 0 1 read 0 = got 0", "0 0 1 read 0 = got 0\n\n0 2 3 read 0 = got 0",
            "0 0 1 read 0 = got 0 \n0 2 3 read 0 = got 0", "0 0 1 read 0 = got 0\n 0 2 3 read 0 = got 0",
            "0 0 1 read 0 = got 0\r\n0 2 3 read 0 = got 0", "0 0 1 read 0 = got 0; 0 2 3 read 0 = got 0",
            "row 0", "first 0 0 0 0 0 0 0 0", "must read 0 = got 0",
        )

    def test_parts(self):
        self.no_text(
            read_history, "0 0 1 deal read 0 = each ( got 0 )", "0 0 1 deal ( read 0 = each ( got 0 )",
            "0 0 1 deal read 0 ) = each ( got 0 )", "0 0 1 deal ( read 0 ) ) = each ( got 0 )",
            "0 0 1 deal ( ( read 0 ) ) = each ( got 0 )", "0 0 1 deal ( ) = each ( got 0 )",
            "0 0 1 deal (read 0) = each ( got 0 )", "0 0 1 deal ( read 0 ) read 1 = each ( got 0 )",
            "0 0 1 deal ) read 0 ( = each ( got 0 )", "0 0 1 deal ( read ) = each ( got 0 )",
            "0 0 1 deal ( read 0 read 1 ) = each ( got 0 )", "0 0 1 ( read 0 ) = got 0", "0 0 1 deal 0 = each",
            "0 0 1 deal ( got 0 ) = each ( got 0 )", "0 0 1 deal ( = each ( got 0 )", "0 0 1 deal ) = each ( got 0 )",
            "0 0 1 deal ( read 0 ) = each got 0", "0 0 1 deal ( read 0 ) = each ( got )",
            "0 0 1 deal ( read 0 ) = each ( )",
            "0 0 1 deal ( read 0 ) = each ( got 0", "0 0 1 deal ( read 0 ) = each got 0 )",
            "0 0 1 deal ( read 0 ) = ( got 0 )",
            "0 0 1 deal ( read 0 ) = each ( ( got 0 ) )", "0 0 1 deal ( read 0 ) = each ( read 0 )",
            "0 0 1 deal ( read 0 ) = each 0", "0 0 1 deal ( read 0 ) = each ( got 0 ) -",
        )
        # Within each there are no such words.
        self.no_text(
            read_history, "0 0 1 deal ( read 0 ) = each ( - )", "0 0 1 deal ( read 0 ) = each ( all 0 )",
            "0 0 1 deal ( read 0 ) = each ( all )", "0 0 1 deal ( read 0 ) = each ( each )",
            "0 0 1 deal ( read 0 ) = each ( each ( got 0 ) )", "0 0 - deal ( read 0 ) = each ( - )",
        )

    def test_what_tells_no_deed(self):
        for text in [
            "6 0 1 read 0 = got 0", "-1 0 1 read 0 = got 0", "0 -1 1 read 0 = got 0", "0 1 1 read 0 = got 0",
            "0 2 1 read 0 = got 0", "0 0 1 read 8 = got 0", "0 0 1 read -1 = got 0", "0 0 1 span 0 9 = refused",
            "0 0 1 span 2 2 = all", "0 0 1 span 2 1 = all", "0 0 1 span 0 2 = all 0", "0 0 1 span 0 2 = all",
            "0 0 1 span 0 2 = all 0 0 0", "0 0 1 read 0 = done", "0 0 1 read 0 = yes", "0 0 1 write 0 1 = got 1",
            "0 0 1 swap 0 0 1 = got 1", "0 0 1 read 0 = all 0", "0 0 1 read 0 = each", "0 0 1 read 0 = all",
            "0 0 1 read 0 = -", "0 0 - read 0 = got 0", "0 0 - read 0 = refused", "0 0 1 deal = each",
            "0 0 1 deal = refused", "0 0 - deal = -", "0 0 1 deal ( read 0 ) = each",
            "0 0 1 deal ( read 0 ) = each ( got 0 ) ( got 0 )", "0 0 1 deal ( read 0 ) = each ( refused )",
            "0 0 1 deal ( read 0 ) = each ( done )", "0 0 1 deal ( read 0 ) = got 0",
            "0 0 1 deal ( read 9 ) = refused",
            "0 0 1 deal" + " ( read 0 )" * 5 + " = each" + " ( got 0 )" * 5, "0 0 1 deal ( span 0 1 ) = refused",
            "0 0 1 deal ( deal ( read 0 ) ) = refused", "0 0 - deal ( deal ) = -",
        ]:
            self.no_history(text, 0)
            self.no_history("5 7 8 read 0 = got 0\n" + text, 1)
            self.no_text(read_history, text + "\n0 7 8 read 0", "x\n" + text)

    def test_deals_far_within_one_another(self):
        for count in (3, 12, 13, 100, 5000):
            text = "0 0 - deal " + "( deal " * count + ") " * count + "= -"
            with self.assertRaises((NoHistory, NoText)):
                read_history(text)

    def test_deeds_that_go_not_together(self):
        one = "0 0 1 read 0 = got 0"
        self.no_history(one + "\n" + one, 1)
        self.no_history(one + "\n1 2 3 read 0 = got 0\n2 3 4 read 0 = got 0", 2)
        self.no_history("0 0 9 read 0 = got 0\n0 2 3 read 0 = got 0", 1)
        self.no_history("0 5 - read 0 = -\n1 1 2 read 0 = got 0\n0 7 8 read 0 = got 0\n9 9 9 read 0 = got 0", 3)
        self.no_history("0 5 - read 0 = -\n1 1 2 read 0 = got 0\n0 7 8 read 0 = got 0", 2)

    def test_signs_at_each_place(self):
        for text in ["0 10 - deal ( read 1 ) ( write 2 -3 ) = -", "1 0 5 span 0 2 = all 10 0\n2 6 7 read 3 = refused",
                     "0 1 2 deal ( swap 0 0 1 ) = each ( yes )"]:
            for place in range(len(text) + 1):
                for sign in SIGNS:
                    for other in (text[:place] + sign + text[place:], text[:place] + sign + text[place + 1:]):
                        self.read_as(read_history, reader.history(other), is_history, NoHistory, other)

    def test_spoilt_texts(self):
        chance = random.Random(49)
        counts = {}
        for number in range(3000):
            text = spoilt(chance, show_history(random_history(chance, 3, 1 + number % 3)))
            told = self.read_as(read_history, reader.history(text), is_history, NoHistory, text)
            counts[told] = counts.get(told, 0) + 1
            if told == "read":
                self.assertEqual(show_history(read_history(text)), text)
        self.assertGreater(min(counts[word] for word in ("no text", "read", "refused")), 50, counts)

    def test_what_is_no_text(self):
        for read in (read_history, read_problem, read_row, read_paper):
            self.no_text(read, *NO_TEXTS)
            self.no_text(read, ["0 0 1 read 0 = got 0"], ("row",), b"row 1", [""])
        self.assertTrue(issubclass(NoText, JudgeError))


NOUGHTS = "first 0 0 0 0 0 0 0 0"


class Problems(Texts):
    """[48], [49]: problems."""

    def told(self, problem, text):
        self.assertEqual(told_alike(self, show_problem, (problem,)), text)
        self.assertEqual(told_alike(self, read_problem, (text,)), problem)
        self.assertEqual(reader.problem(text), ("read", problem))

    def no_problem(self, *texts):
        for text in texts:
            with self.assertRaises(NoProblem, msg=text):
                read_problem(text)

    def test_no_item(self):
        self.told((FIRST, (), (), ()), NOUGHTS)
        self.told(((1, -2, 30, 4, 5, 6, 7, int(FORTY)), (), (), ()), "first 1 -2 30 4 5 6 7 " + FORTY)

    def test_steps_and_words(self):
        items = (
            (("look", ("add", 2, 3)), ("got", 3), "must"),
            (("look", ("deal", (("write", 0, 1), ("swap", 0, 1, 2)))), ("each", (("done",), ("yes",))), "may"),
            (("lay", ((0, 4), (3, -1), (7, 0))), ("done",), "out"),
            (("lay", ((1, 5),)), None, "must"),
            (("span", 0, 2), ("all", (1, 2)), "may"),
            (("look", ("span", 0, 1)), None, "out"),
            (("deal", (("read", 1), ("add", 1, -1))), None, "must"),
            (("read", 6), ("refused",), "must"),
        )
        self.told((FIRST, items, ((0, 1), (7, 2), (0, 1)), ((0, 3, 2), (7, 6, 1))), "\n".join([
            NOUGHTS, "must look add 2 3 = got 3", "may look deal ( write 0 1 ) ( swap 0 1 2 ) = each ( done ) ( yes )",
            "out lay 0 4 3 -1 7 0 = done", "must lay 1 5 = -", "may span 0 2 = all 1 2", "out look span 0 1 = -",
            "must deal ( read 1 ) ( add 1 -1 ) = -", "must read 6 = refused", "before 0 1", "before 7 2", "before 0 1",
            "apart 0 3 2", "apart 7 6 1",
        ]))

    def test_each_step_and_answer(self):
        for step, answers in ANSWERS:
            for answer in answers + [None]:
                for word in ("must", "may", "out"):
                    problem = (FIRST, ((step, answer, word),), (), ())
                    self.told(problem, show_problem(problem))

    def test_many_problems(self):
        chance = random.Random(48)
        for number in range(300):
            problem = random_problem(chance) if number % 2 else random_tight_problem(chance)
            self.told(problem, show_problem(problem))

    def test_problems_of_promises(self):
        for history, _ in KEEPS:
            for promise in PROMISES:
                for _, problem in problems_of(history, promise):
                    self.told(problem, show_problem(problem))

    def test_great_ones(self):
        items = ((("read", 0), None, "must"),) * 120
        pairs = tuple((x % 119, 119) for x in range(4000))
        triples = tuple((x % 100, 100 + x % 10, 119) for x in range(4000))
        problem = (FIRST, items, pairs, triples)
        text = show_problem(problem)
        self.told(problem, text)
        head = "\n".join([NOUGHTS] + ["must read 0 = -"] * 120)
        self.no_problem(head + "\nmust read 0 = -", text + "\napart 0 1 2", head + "\nbefore 0 1" * 4001)

    def test_no_text(self):
        for text in [
            "", " ", "\n", "first ", "First 0 0 0 0 0 0 0 0", "must read 0 = -", NOUGHTS + "\n", "\n" + NOUGHTS,
            NOUGHTS + " ", " " + NOUGHTS, NOUGHTS + "\n" + NOUGHTS, "before 0 1\n" + NOUGHTS,
            "must read 0 = -\n" + NOUGHTS, "first 0 0 0 0 0 0 0 x", "first 0 0 0 0 0 0 0 00", "first 0 0 0 0 0 0 0 -",
            NOUGHTS.replace(" ", "  "), NOUGHTS.replace(" ", "\t"), "0 0 1 read 0 = got 0", "row 0",
        ]:
            self.no_text(read_problem, text)
        for rows in [
            "before 0 1\nmust read 0 = -\nmust read 0 = -", "must read 0 = -\napart 0 1 2\nbefore 0 1",
            "apart 0 1 2\nmust read 0 = -", "must", "must read 0", "must read 0 =", "read 0 = -", "Must read 0 = -",
            "must = -", "must read 0 = - -", "must 0 0 1 read 0 = -", "must must read 0 = -", "must lay 0 = done",
            "must lay 0 1 2 = done", "must look = -", "must look 0 = -", "must lay x 1 = done",
            "must lay ( 0 1 ) = done",
            "before 0 x", "before 0  1", "before 00 1", "before ", "apart 0 1 2 x", "behind 0 1", "row 0", "",
            "must deal ( lay 0 1 ) = -", "must deal ( look read 0 ) = -", "must deal ( read 0 ) = each ( - )",
            "must read 0 = got", "must read = -", "must span 0 1 = all x", "must read 0 = got " + FORTY + "1",
        ]:
            self.no_text(read_problem, NOUGHTS + "\n" + rows, "first 0\n" + rows)
            self.assertEqual(reader.problem(NOUGHTS + "\n" + rows), reader.NO_TEXT)

    def test_no_problem(self):
        self.no_problem("first", "first 0", "first 0 0 0 0 0 0 0", NOUGHTS + " 0")
        two = NOUGHTS + "\nmust read 0 = -\nmay read 0 = -\n"
        self.no_problem(
            two + "before", two + "before 0", two + "before 0 1 0", two + "before 0 0", two + "before 0 2",
            two + "apart", two + "apart 0 1", two + "apart 0 1 0 1", two + "apart 0 1 2", two + "before 0 " + FORTY,
            two + "must read 9 = -", two + "must read 0 = done", two + "must read 0 = all", two + "must deal = -",
            two + "must lay 0 1 = got 0", two + "must lay 0 1 = refused", two + "must lay 1 0 0 0 = -",
            two + "must lay 0 0 0 0 = -", two + "must lay 8 0 = -", two + "must look read 0 = refused",
            two + "must look read 0 = done", two + "must lay = done", two + "must span 1 1 = all",
            two + "must read 0 = -\napart 0 1 2", two + "may read 0 = -\napart 1 0 2",
        )

    def test_spoilt_texts(self):
        chance = random.Random(491)
        counts = {}
        for number in range(3000):
            problem = random_problem(chance) if number % 2 else random_tight_problem(chance)
            text = spoilt(chance, show_problem(problem))
            if not_promised(text) or any("-" in row for row in text.split("\n") if row[:6] in ("before", "apart ")):
                continue
            told = self.read_as(read_problem, reader.problem(text), is_problem, NoProblem, text)
            counts[told] = counts.get(told, 0) + 1
            if told == "read":
                self.assertEqual(show_problem(read_problem(text)), text)
        self.assertGreater(min(counts[word] for word in ("no text", "read", "refused")), 50, counts)

    def test_the_things_that_are_no_problem_are_not_shown_as_one(self):
        self.assertFalse([thing for thing in NO_PROBLEMS if is_problem(thing)])


class Rows(Texts):
    """[48], [49]: rows of problems."""

    def test_rows(self):
        for row, text in [((), "row"), ((0,), "row 0"), ((3, 1, 2), "row 3 1 2"), ((5, 5), "row 5 5"),
                          ((int(FORTY), 10), f"row {FORTY} 10")]:
            self.assertEqual(told_alike(self, show_row, (row,)), text)
            self.assertEqual(told_alike(self, show_row, (list(row),)), text)
            self.assertEqual(told_alike(self, read_row, (text,)), row)

    def test_no_text(self):
        self.no_text(read_row, "", " ", "\n", "row ", " row", "Row 0", "rows 0", "ro 0", "row  0", "row 0 ", "row\t0",
                     "row 0\n", "\nrow 0", "row\n0", "row 0\nrow 1", "0 1", "row x", "row 0, 1", "(0, 1)", "row = 0")
        for word in NO_NUMBERS:
            self.no_text(read_row, "row " + word, f"row 0 {word} 1")

    def test_spoilt_texts(self):
        chance = random.Random(492)
        for _ in range(500):
            text = spoilt(chance, show_row([chance.randrange(30) for _ in range(chance.randrange(5))]))
            if "-" not in text:
                self.read_as(read_row, reader.row(text), lambda row: True, None, text)


RING = "ring\n0 1 told\n1 0 only 3\n0 0 through 1\nover"
STANDS = "stands\nat : 0 0 0 0 0 0 0 0\nat 0 2 : 1 -2 3 4 5 6 7 8\nover"


def as_tuples(thing):
    return tuple(as_tuples(one) for one in thing) if isinstance(thing, (list, tuple)) else thing


def as_lists(paper):
    """A paper with lists of nodes and steps."""
    if paper[0] in ("stands", "ring"):
        return (paper[0], list(paper[1]))
    return paper[:-2] + (as_lists(paper[-2]), as_lists(paper[-1]))


def nested(count, side, word="inout 3"):
    """The text of papers within one another, so many, all as the one or all as the other of the one around."""
    rows = ["ring\nover"]
    for _ in range(count):
        rows = [word] + rows + ["stands\nover"] if side == "one" else [word, "stands\nover"] + rows
    return "\n".join(rows)


class Papers(Texts):
    """[48], [49]: papers."""

    def told(self, paper, text):
        self.assertEqual(told_alike(self, show_paper, (paper,)), text)
        self.assertEqual(told_alike(self, show_paper, (as_lists(paper),)), text)
        self.assertEqual(told_alike(self, read_paper, (text,)), paper)
        self.assertEqual(reader.paper(text), ("read", paper))

    def test_stands(self):
        self.told(("stands", ()), "stands\nover")
        self.told(("stands", (((), FIRST), ((0, 2), (1, -2, 3, 4, 5, 6, 7, 8)))), STANDS)
        # Faults of a paper are another matter.
        self.told(("stands", (((2, 1, 1), FIRST),)), "stands\nat 2 1 1 : 0 0 0 0 0 0 0 0\nover")

    def test_ring(self):
        self.told(("ring", ()), "ring\nover")
        self.told(("ring", ((0, 1, ("told",)), (1, 0, ("only", 3)), (0, 0, ("through", 1)))), RING)
        self.told(("ring", ((10, 11, ("first", 0)), (1, 2, ("late", 7, 3)), (2, 1, ("early", 0, 12)),
                            (4, 4, ("apart", 5)), (1, 2, ("only", 99)))),
                  "ring\n10 11 first 0\n1 2 late 7 3\n2 1 early 0 12\n4 4 apart 5\n1 2 only 99\nover")

    def test_cases_and_inout(self):
        ring, stands = read_paper(RING), read_paper(STANDS)
        self.told(("cases", 0, 10, ring, stands), f"cases 0 10\n{RING}\n{STANDS}")
        self.told(("inout", 3, stands, ring), f"inout 3\n{STANDS}\n{RING}")
        self.told(("cases", 1, 0, ("inout", 2, ring, ring), ("cases", 4, 5, stands, ("inout", 6, ring, stands))),
                  f"cases 1 0\ninout 2\n{RING}\n{RING}\ncases 4 5\n{STANDS}\ninout 6\n{RING}\n{STANDS}")

    def test_within_one_another(self):
        for side in ("one", "two"):
            for word in ("inout 3", "cases 0 1"):
                for count in (1, 11, 12):
                    text = nested(count, side, word)
                    paper = read_paper(text)
                    self.told(paper, text)
                    for _ in range(count):
                        self.assertEqual(paper[0], word[:5])
                        paper = paper[-2] if side == "one" else paper[-1]
                    self.assertEqual(paper, ("ring", ()))
                for count in (13, 14, 500, 5000):
                    self.no_text(read_paper, nested(count, side, word))

    def test_many_papers(self):
        chance = random.Random(482)
        words = {}
        for _ in range(300):
            told = cased(random_tight_problem(chance), chance.randrange(4), 5000)
            if told[0] == "paper":
                paper = as_tuples(told[1])
                self.told(paper, show_paper(told[1]))
                words[paper[0]] = True
        self.assertEqual(set(words), {"stands", "ring", "cases", "inout"})

    def test_papers_of_verdicts(self):
        for history, _ in KEEPS:
            for promise in PROMISES:
                told = judged(history, promise, 5000)
                if told[0] == "broken":
                    self.assertEqual(read_paper(show_paper(told[2])), as_tuples(told[2]))

    def test_no_text(self):
        self.no_text(
            read_paper, "", " ", "\n", "over", "stands", "ring", "stands\n", "stands over", "stands\nOver",
            "Stands\nover",
            "stands\nover\n", "\nstands\nover", "stands \nover", "stands\nover ", "stands\n over",
            "stands\nover\nover",
            "stands\nover\nring\nover", "stands\n\nover", "ring\nat : 0 0 0 0 0 0 0 0\nover", "stands\n0 1 told\nover",
            "stands\nat : 0 0 0 0 0 0 0\nover", "stands\nat : 0 0 0 0 0 0 0 0 0\nover",
            "stands\nat 0 0 0 0 0 0 0 0\nover",
            "stands\n: 0 0 0 0 0 0 0 0\nover", "stands\nat : : 0 0 0 0 0 0 0 0\nover",
            "stands\nat 0 : 0 0 0 0 0 0 0 x\nover",
            "stands\nat x : 0 0 0 0 0 0 0 0\nover", "stands\nat 0: 0 0 0 0 0 0 0 0\nover",
            "stands\nAt : 0 0 0 0 0 0 0 0\nover",
            "stands\nat :\nover", "stands\nat\nover", "stands\nat  : 0 0 0 0 0 0 0 0\nover",
            "stands\nto : 0 0 0 0 0 0 0 0\nover",
            "stands\n0 : 0 0 0 0 0 0 0 0\nover", "stands\nat : 0 0 0 0 0 0 0 0 \nover",
            "stands\nat 01 : 0 0 0 0 0 0 0 0\nover",
            "ring\n0 1\nover", "ring\n0\nover", "ring\n0 told\nover", "ring\ntold\nover", "ring\n0 1 told 0\nover",
            "ring\n0 1 through\nover", "ring\n0 1 through 1 2\nover", "ring\n0 1 only\nover", "ring\n0 1 late 1\nover",
            "ring\n0 1 early 1 2 3\nover", "ring\n0 1 apart x\nover", "ring\n0 1 Told\nover", "ring\n0 1 why\nover",
            "ring\nx 1 told\nover", "ring\n0 x told\nover", "ring\n0 1 2 told\nover", "ring\n0 1 told \nover",
            "cases", "cases 0 1", "cases 0 1\nring\nover", "cases 0\nring\nover\nring\nover",
            "cases 0 1 2\nring\nover\nring\nover", "cases 0 x\nring\nover\nring\nover", "inout 0\nring\nover",
            "inout\nring\nover\nring\nover", "inout 0 1\nring\nover\nring\nover",
            "cases 0 1\nring\nover\nring\nover\nring\nover", "cases 0 1\nring\nover\nover",
            "cases 0 1\n\nring\nover\nring\nover",
            "Cases 0 1\nring\nover\nring\nover", "inout 00\nring\nover\nring\nover", "inout 0\nring\nover\nring",
            "row 0", NOUGHTS,
        )

    def test_spoilt_texts(self):
        chance = random.Random(493)
        counts = {}
        whole = f"cases 1 0\ninout 2\n{RING}\n{STANDS}\ncases 4 5\n{STANDS}\n{RING}"
        for _ in range(3000):
            text = spoilt(chance, chance.choice([RING, STANDS, whole, "inout 1\nring\nover\nstands\nover"]))
            told = self.read_as(read_paper, reader.paper(text), lambda paper: True, None, text)
            counts[told] = counts.get(told, 0) + 1
            if told == "read":
                self.assertEqual(show_paper(read_paper(text)), text)
        self.assertGreater(min(counts[word] for word in ("no text", "read")), 100, counts)

    def test_signs_at_each_place(self):
        for text in (RING, STANDS, "cases 1 10\nring\nover\nstands\nover"):
            for place in range(len(text) + 1):
                for sign in SIGNS:
                    for other in (text[:place] + sign + text[place:], text[:place] + sign + text[place + 1:]):
                        self.read_as(read_paper, reader.paper(other), lambda paper: True, None, other)


if __name__ == "__main__":
    unittest.main()
