"""Words: numbers, steps and answers shown as words, and read of just such words."""

from storejudge.errors import NoText

FIGURES = "0123456789"
MOST_FIGURES = 40
MOST_DEALS = 12

# Of each word: how many numbers stand behind it.
CALL_WORDS = {"read": 1, "write": 2, "add": 2, "swap": 3, "span": 2}
ANSWER_WORDS = {"got": 1, "done": 0, "yes": 0, "no": 0, "refused": 0}


def number_words(numbers):
    return [str(number) for number in numbers]


def bracketed(lots):
    """All words of these lots of words, each lot between ( and )."""
    words = []
    for lot in lots:
        words.extend(["("] + lot + [")"])
    return words


def step_words(step):
    if step[0] == "deal":
        return ["deal"] + bracketed([step_words(part) for part in step[1]])
    if step[0] == "look":
        return ["look"] + step_words(step[1])
    if step[0] == "lay":
        numbers = []
        for key, value in step[1]:
            numbers.extend([key, value])
        return ["lay"] + number_words(numbers)
    return [step[0]] + number_words(step[1:])


def answer_words(answer):
    if answer is None:
        return ["-"]
    if answer[0] == "each":
        return ["each"] + bracketed([answer_words(part) for part in answer[1]])
    if answer[0] == "all":
        return ["all"] + number_words(answer[1])
    return [answer[0]] + number_words(answer[1:])


def is_number(word):
    figures = word[1:] if word.startswith("-") else word
    if not 1 <= len(figures) <= MOST_FIGURES or not all([sign in FIGURES for sign in figures]):
        return False
    return word == "0" or figures[0] != "0"


def number_of(word):
    if not is_number(word):
        raise NoText("this is no number")
    return int(word)


def numbers_of(words):
    return tuple([number_of(word) for word in words])


def first_of(words):
    return words[0] if len(words) > 0 else ""


def worded(words, count):
    """A tuple of a word and the numbers behind it, of which there are to be count; None: it is no such word."""
    if count is None or len(words) != 1 + count:
        raise NoText("these words show nothing here")
    return (words[0],) + numbers_of(words[1:])


def plain_call_of(words):
    return worded(words, CALL_WORDS.get(first_of(words)))


def plain_answer_of(words):
    return worded(words, ANSWER_WORDS.get(first_of(words)))


def halves(words, sign):
    """The words ahead of the first such sign, and those behind it."""
    if sign not in words:
        raise NoText("a sign is missing")
    place = words.index(sign)
    return (words[:place], words[place + 1:])


def parts_in(words):
    """The lots of words that stand each between ( and its )."""
    lots = []
    deep = 0
    for word in words:
        if word == "(":
            deep += 1
            if deep == 1:
                lots.append([])
                continue
        if word == ")":
            deep -= 1
            if deep == 0:
                continue
        if deep < 1:
            raise NoText("a part stands between ( and )")
        lots[-1].append(word)
    if deep != 0:
        raise NoText("a ( has no )")
    return lots


def call_of(words):
    return call_within(words, 0)


def call_within(words, deep):
    # A deal within a deal is no part of one, but told in words all the same; beyond some depth nothing is.
    if first_of(words) != "deal" or deep == MOST_DEALS:
        return plain_call_of(words)
    return ("deal", tuple([call_within(part, deep + 1) for part in parts_in(words[1:])]))


def step_of(words):
    if first_of(words) == "look":
        return ("look", call_of(words[1:]))
    if first_of(words) == "lay":
        return ("lay", pairs_of(numbers_of(words[1:])))
    return call_of(words)


def pairs_of(numbers):
    if len(numbers) % 2 == 1:
        raise NoText("a key has no value")
    return tuple([(numbers[place], numbers[place + 1]) for place in range(0, len(numbers), 2)])


def answer_of(words):
    if words == ["-"]:
        return None
    if first_of(words) == "each":
        return ("each", tuple([plain_answer_of(part) for part in parts_in(words[1:])]))
    if first_of(words) == "all":
        return ("all", numbers_of(words[1:]))
    return plain_answer_of(words)
