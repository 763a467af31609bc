"""Histories: looking them over, their hands, and the order of their deeds in time."""

from storejudge.calls import is_answer, is_call
from storejudge.errors import NoHistory
from storejudge.kinds import is_between, is_tuple_of, is_whole

LAST_HAND = 5
MOST_DEEDS = 60


def is_time(thing):
    return is_whole(thing) and thing >= 0


def is_deed(thing):
    if not is_tuple_of(thing, 5) or not is_between(thing[0], 0, LAST_HAND):
        return False
    if not is_time(thing[1]) or not is_call(thing[3]):
        return False
    if thing[2] is None:
        return thing[4] is None
    return is_time(thing[2]) and thing[1] < thing[2] and is_answer(thing[3], thing[4])


def times_of(deed):
    return [deed[1]] if deed[2] is None else [deed[1], deed[2]]


def ended_below(deed, time):
    return deed[2] is not None and deed[2] < time


def go_together(one, other):
    """Whether two deeds may stand in one history."""
    if any([time in times_of(other) for time in times_of(one)]):
        return False
    return one[0] != other[0] or ended_below(one, other[1]) or ended_below(other, one[1])


def look_over(history):
    if not isinstance(history, tuple) or len(history) > MOST_DEEDS:
        raise NoHistory(-1)
    for number, thing in enumerate(history):
        if not is_deed(thing):
            raise NoHistory(number)
    for number, deed in enumerate(history):
        if not all([go_together(deed, other) for other in history[:number]]):
            raise NoHistory(number)


def hands_in(history):
    return tuple(sorted(set([deed[0] for deed in history])))


def of_hand(history, hand):
    numbers = [number for number, deed in enumerate(history) if deed[0] == hand]
    return tuple(sorted(numbers, key=lambda number: history[number][1]))


def really_ahead(history, a, b):
    return ended_below(history[a], history[b][1])


def is_quiet(history, time):
    ended = [deed for deed in history if ended_below(deed, time)]
    later = [deed for deed in history if deed[1] >= time]
    return len(ended) > 0 and len(later) > 0 and len(ended) + len(later) == len(history)


def quiet_times(history):
    # With the same deeds ended, the least quiet time comes right behind the last of their ends.
    times = sorted([deed[2] + 1 for deed in history if deed[2] is not None])
    return tuple([time for time in times if is_quiet(history, time)])
