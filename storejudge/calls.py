"""Calls, steps and their answers: their forms, and what a call with an answer left."""

from storejudge.kinds import are_rising, are_whole, is_between, is_tuple_of, is_whole

LAST_KEY = 7
MOST_PARTS = 4
CHANGING = ("write", "add", "swap")
REFUSED = ("refused",)

# Of the calls of one key: how many whole numbers stand behind the key.
NUMBERS_BEHIND = {"read": 0, "write": 1, "add": 1, "swap": 2}


def is_key(thing):
    return is_between(thing, 0, LAST_KEY)


def word_of(thing):
    """The text that a tuple begins with, None where the thing is no such tuple."""
    if isinstance(thing, tuple) and len(thing) > 0 and isinstance(thing[0], str):
        return thing[0]
    return None


def is_worded(thing, word, length):
    return word_of(thing) == word and len(thing) == length


def is_single(thing):
    """Whether it is a call of one of the four kinds that have one key."""
    word = word_of(thing)
    if word not in NUMBERS_BEHIND or len(thing) != 2 + NUMBERS_BEHIND[word]:
        return False
    return is_key(thing[1]) and are_whole(thing[2:])


def is_span(thing):
    if not is_worded(thing, "span", 3) or not are_whole(thing[1:]):
        return False
    return 0 <= thing[1] < thing[2] <= LAST_KEY + 1


def is_deal(thing):
    if not is_worded(thing, "deal", 2) or not isinstance(thing[1], tuple):
        return False
    return 1 <= len(thing[1]) <= MOST_PARTS and all([is_single(part) for part in thing[1]])


def is_call(thing):
    return is_single(thing) or is_span(thing) or is_deal(thing)


def is_look(thing):
    return is_worded(thing, "look", 2) and is_call(thing[1])


def is_value_pair(thing):
    return is_tuple_of(thing, 2) and is_key(thing[0]) and is_whole(thing[1])


def is_lay(thing):
    if not is_worded(thing, "lay", 2) or not isinstance(thing[1], tuple) or len(thing[1]) == 0:
        return False
    if not all([is_value_pair(pair) for pair in thing[1]]):
        return False
    return are_rising([pair[0] for pair in thing[1]])


def is_step(thing):
    return is_call(thing) or is_look(thing) or is_lay(thing)


def is_answer(step, thing):
    if not is_step(step):
        return False
    if is_worded(thing, "refused", 1):
        return is_call(step)
    return is_own_answer(step, thing)


def is_own_answer(step, thing):
    """Whether the step, done, could be answered by this form: so refused is none."""
    word = step[0]
    if word in ("read", "add"):
        return is_worded(thing, "got", 2) and is_whole(thing[1])
    if word in ("write", "lay"):
        return is_worded(thing, "done", 1)
    if word == "swap":
        return is_worded(thing, "yes", 1) or is_worded(thing, "no", 1)
    if word == "span":
        return is_worded(thing, "all", 2) and is_tuple_of(thing[1], step[2] - step[1]) and are_whole(thing[1])
    if word == "look":
        return is_own_answer(step[1], thing)
    if not is_worded(thing, "each", 2) or not is_tuple_of(thing[1], len(step[1])):
        return False
    return all([is_own_answer(part, told) for part, told in zip(step[1], thing[1])])


def may_change(call):
    if call[0] == "deal":
        return any([may_change(part) for part in call[1]])
    return call[0] in CHANGING


def keys_of(call):
    if call[0] == "span":
        return tuple(range(call[1], call[2]))
    return tuple(sorted(set([part[1] for part, told in parts_of(call, None)])))


def parts_of(call, answer):
    """The parts of a deal, any other call itself, each in a pair with its answer (None with None)."""
    if call[0] != "deal":
        return [(call, answer)]
    if answer is None:
        return [(part, None) for part in call[1]]
    return list(zip(call[1], answer[1]))


def value_left(part, answer):
    """The value to which a call of one key changed it by its answer, None where it changed nothing."""
    if part[0] == "write":
        return part[2]
    if part[0] == "add":
        return answer[1]
    if part[0] == "swap" and answer == ("yes",):
        return part[3]
    return None


def left_by(call, answer):
    if answer == REFUSED:
        return ()
    left = {}
    for part, told in parts_of(call, answer):
        value = value_left(part, told)
        if value is not None:
            left[part[1]] = value
    return tuple(sorted(left.items()))


def part_on(call, answer, key):
    if key not in keys_of(call):
        return None
    if call[0] == "span":
        return (("read", key), None if answer is None else ("got", answer[1][key - call[1]]))
    pairs = [pair for pair in parts_of(call, answer) if pair[0][1] == key]
    if len(pairs) == 1:
        return pairs[0]
    deal = ("deal", tuple([part for part, told in pairs]))
    return (deal, None if answer is None else ("each", tuple([told for part, told in pairs])))
