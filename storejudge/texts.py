"""Texts: histories, problems, rows and papers shown, and read of just such texts."""

from storejudge.errors import NoText
from storejudge.histories import look_over
from storejudge.papers import MOST_DEEP
from storejudge.problems import check_problem
from storejudge.rings import REASONS
from storejudge.store import FIRST
from storejudge.words import (
    answer_of, answer_words, call_of, first_of, halves, number_of, number_words, numbers_of, step_of, step_words,
    worded,
)

# The rows of a problem's text, by the word that each begins with, in the order in which they come.
PLACES = {"first": 0, "must": 1, "may": 1, "out": 1, "before": 2, "apart": 3}

# Of the papers that part a problem: how many numbers stand behind the word.
PARTINGS = {"cases": 2, "inout": 1}


def one_row(words):
    return " ".join(words)


def rows_in(text):
    """The rows of a text, each as the list of its words."""
    if not isinstance(text, str):
        raise NoText("this is no text")
    return [row.split(" ") for row in text.split("\n")]


def show_history(history):
    return "\n".join([show_deed(deed) for deed in history])


def show_deed(deed):
    end = "-" if deed[2] is None else str(deed[2])
    return one_row(number_words(deed[:2]) + [end] + step_words(deed[3]) + ["="] + answer_words(deed[4]))


def read_history(text):
    rows = rows_in(text)
    history = () if text == "" else tuple([deed_of(words) for words in rows])
    look_over(history)
    return history


def deed_of(words):
    """What these words show as a deed; whether it is one is not asked."""
    sides = halves(words, "=")
    head = sides[0]
    if len(head) < 3:
        raise NoText("this is no deed's row")
    end = None if head[2] == "-" else number_of(head[2])
    return (number_of(head[0]), number_of(head[1]), end, call_of(head[3:]), answer_of(sides[1]))


def show_problem(problem):
    rows = [one_row(["first"] + number_words(problem[0]))]
    for step, answer, word in problem[1]:
        rows.append(one_row([word] + step_words(step) + ["="] + answer_words(answer)))
    rows.extend([one_row(["before"] + number_words(pair)) for pair in problem[2]])
    rows.extend([one_row(["apart"] + number_words(triple)) for triple in problem[3]])
    return "\n".join(rows)


def read_problem(text):
    lots = [[], [], [], []]
    latest = 0
    for words in rows_in(text):
        place = PLACES.get(words[0], -1)
        if place < latest:
            raise NoText("this is no problem's row, or stands behind what it should be ahead of")
        latest = place
        lots[place].append(item_of(words) if place == 1 else numbers_of(words[1:]))
    if len(lots[0]) != 1:
        raise NoText("a problem has one first stand")
    problem = (lots[0][0], tuple(lots[1]), tuple(lots[2]), tuple(lots[3]))
    check_problem(problem)
    return problem


def item_of(words):
    sides = halves(words[1:], "=")
    return (step_of(sides[0]), answer_of(sides[1]), words[0])


def show_row(row):
    return one_row(["row"] + number_words(row))


def read_row(text):
    rows = rows_in(text)
    if len(rows) != 1 or rows[0][0] != "row":
        raise NoText("this is no row")
    return numbers_of(rows[0][1:])


def show_paper(paper):
    return "\n".join(paper_rows(paper))


def paper_rows(paper):
    word = paper[0]
    if word == "stands":
        return ["stands"] + [node_row(node) for node in paper[1]] + ["over"]
    if word == "ring":
        return ["ring"] + [ring_row(step) for step in paper[1]] + ["over"]
    return [one_row([word] + number_words(paper[1:-2]))] + paper_rows(paper[-2]) + paper_rows(paper[-1])


def node_row(node):
    return one_row(["at"] + number_words(node[0]) + [":"] + number_words(node[1]))


def ring_row(step):
    why = step[2]
    return one_row(number_words(step[:2]) + [why[0]] + number_words(why[1:]))


def read_paper(text):
    rows = rows_in(text)
    told = paper_at(rows, 0, 0)
    if told[1] != len(rows):
        raise NoText("rows stand behind the paper")
    return told[0]


def paper_at(rows, place, deep):
    """The paper whose rows begin at this place, within so many others, and the place behind it."""
    if place == len(rows):
        raise NoText("a paper is missing")
    if rows[place] in (["stands"], ["ring"]):
        return list_at(rows, place)
    parting = worded(rows[place], PARTINGS.get(rows[place][0]))
    if deep == MOST_DEEP:
        raise NoText("too many papers stand within one another")
    one = paper_at(rows, place + 1, deep + 1)
    two = paper_at(rows, one[1], deep + 1)
    return (parting + (one[0], two[0]), two[1])


def list_at(rows, place):
    """The stands or the ring whose rows begin at this place, and the place behind it."""
    word = rows[place][0]
    told = []
    place += 1
    while place < len(rows) and rows[place] != ["over"]:
        told.append(node_of(rows[place]) if word == "stands" else ring_step_of(rows[place]))
        place += 1
    if place == len(rows):
        raise NoText("a list has no end")
    return ((word, tuple(told)), place + 1)


def node_of(words):
    sides = halves(words, ":")
    if first_of(sides[0]) != "at" or len(sides[1]) != len(FIRST):
        raise NoText("this is no node's row")
    return (numbers_of(sides[0][1:]), numbers_of(sides[1]))


def ring_step_of(words):
    reason = words[2:]
    count = len(REASONS[reason[0]]) if first_of(reason) in REASONS else None
    why = worded(reason, count)
    return (number_of(words[0]), number_of(words[1]), why)
