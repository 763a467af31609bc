"""A desk: it keeps a history, is told rows of words, and answers each with a list of texts."""

from storejudge.errors import NoLine, NoText
from storejudge.groups import groups
from storejudge.histories import hands_in, look_over, of_hand
from storejudge.leasts import least
from storejudge.makers import make
from storejudge.promises import problems_of
from storejudge.quiets import pieces
from storejudge.texts import deed_of, paper_rows, show_deed, show_row
from storejudge.verdicts import judged
from storejudge.words import number_of, number_words, numbers_of

# The words that a row begins with: those with nothing behind them, and those with more words.
ALONE = ("clear", "history", "pieces", "groups")
WITH_MORE = ("deed", "judge", "least", "make")


class Desk:
    """It keeps a history, empty at first."""

    def __init__(self):
        self.kept = ()

    def say(self, row):
        words = words_in(row)
        if words[0] == "clear":
            self.kept = ()
        elif words[0] == "deed":
            self.kept = with_deed(self.kept, words[1:])
        elif words[0] == "make":
            self.kept = made(self.kept, words[1:])
            return history_rows(self.kept)
        else:
            return told_of(self.kept, words[0], words[1:])
        return []


def words_in(row):
    if not isinstance(row, str):
        raise NoLine("this is no text")
    words = row.split(" ")
    if words[0] not in WITH_MORE and (words[0] not in ALONE or len(words) > 1):
        raise NoLine("the desk knows no such row")
    return words


def told_of(history, word, words):
    """The answer to a row that changes nothing."""
    if word == "history":
        return history_rows(history)
    if word == "judge":
        return judge_rows(history, words)
    if word == "least":
        return least_rows(history, words)
    if word == "pieces":
        return [numbered("piece", piece) for piece in pieces(history)]
    return [" ".join([numbered("group", keys), numbered(":", numbers)]) for keys, numbers in groups(history)]


def numbered(word, numbers):
    return " ".join([word] + number_words(numbers))


def history_rows(history):
    return [show_deed(deed) for deed in history]


def with_deed(history, words):
    longer = history + (deed_of(words),)
    look_over(longer)
    return longer


def made(history, words):
    """The history that a store makes of the calls of this one."""
    check_count(words, 1, len(words))
    picks = numbers_of(words[1:])
    plans = [plan_of(history, hand) for hand in range(max(hands_in(history), default=-1) + 1)]
    return make(words[0], tuple(plans), picks)[0]


def plan_of(history, hand):
    return tuple([history[number][3] for number in of_hand(history, hand)])


def judge_rows(history, words):
    check_count(words, 2, 2)
    told = judged(history, words[0], most_of(words[1]))
    if told[0] == "kept":
        return ["kept"] + [show_row(row) for row in told[1]]
    rows = [numbered(told[0], told[1:2])]
    return rows + paper_rows(told[2]) if told[0] == "broken" else rows


def least_rows(history, words):
    check_count(words, 3, 3)
    number = number_of(words[1])
    most = most_of(words[2])
    problems = problems_of(history, words[0])
    if not 0 <= number < len(problems):
        raise NoText("there is no such problem")
    told = least(problems[number][1], most)
    if told[0] == "row":
        return [show_row(told[1])]
    return [numbered("held", told[1])] if told[0] == "least" else ["more"]


def check_count(words, fewest, most):
    """Whether there are as many words as should be, and each of them is one."""
    if not fewest <= len(words) <= most or "" in words:
        raise NoText("too few words, or too many")


def most_of(word):
    most = number_of(word)
    if most < 1:
        raise NoText("most is from 1 on")
    return most
