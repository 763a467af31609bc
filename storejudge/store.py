"""A plain store: what it answers to a step at a stand, and the stand behind it."""

from storejudge.kinds import are_whole, is_tuple_of

FIRST = (0, 0, 0, 0, 0, 0, 0, 0)


def is_stand(thing):
    return is_tuple_of(thing, len(FIRST)) and are_whole(thing)


def with_value(stand, key, value):
    return stand[:key] + (value,) + stand[key + 1:]


def done(stand, step):
    word = step[0]
    if word == "span":
        return (("all", stand[step[1]:step[2]]), stand)
    if word == "deal":
        return deal_done(stand, step[1])
    if word == "look":
        return (done(stand, step[1])[0], stand)
    if word == "lay":
        return (("done",), laid(stand, step[1]))
    return single_done(stand, step)


def single_done(stand, call):
    """What comes of a call of one key."""
    word = call[0]
    key = call[1]
    value = stand[key]
    if word == "write":
        return (("done",), with_value(stand, key, call[2]))
    if word == "add":
        return (("got", value + call[2]), with_value(stand, key, value + call[2]))
    if word == "swap" and value == call[2]:
        return (("yes",), with_value(stand, key, call[3]))
    if word == "swap":
        return (("no",), stand)
    return (("got", value), stand)


def deal_done(stand, parts):
    answers = []
    for part in parts:
        told = single_done(stand, part)
        answers.append(told[0])
        stand = told[1]
    return (("each", tuple(answers)), stand)


def laid(stand, pairs):
    for key, value in pairs:
        stand = with_value(stand, key, value)
    return stand
