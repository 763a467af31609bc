"""Pieces of a history, cut at its quiet times, and the history judged for real piece by piece."""

from storejudge.calls import keys_of
from storejudge.carried import in_order
from storejudge.groups import part
from storejudge.histories import look_over, quiet_times
from storejudge.problems import Ways
from storejudge.promises import deeds_of, frames_of
from storejudge.stands import rows_to_ends
from storejudge.store import FIRST, laid


def pieces(history):
    look_over(history)
    if len(history) == 0:
        return []
    times = quiet_times(history)
    lots = [[] for place in range(len(times) + 1)]
    for number, deed in enumerate(history):
        lots[len([time for time in times if time <= deed[1]])].append(number)
    return [tuple(lot) for lot in lots]


def in_pieces(history, most):
    ways = {FIRST: ()}
    for number, piece in enumerate(pieces(history)):
        ways = ways_behind(history, piece, ways, most)
        if ways is None:
            return ("more", number)
        if len(ways) == 0:
            return ("broken", number)
    way = list(ways.values())[0]
    return ("kept", in_order(way, deeds_of(history, "real")[0]))


def ways_behind(history, piece, ways, most):
    """Each stand to which rows of a piece lead, with the deeds that lead there, in their order.

    Handed in are the stands ahead of the piece, likewise. None is told where from one of them more than most
    nodes can be come to.
    """
    frame = frames_of(part(history, piece), "real")[0]
    problem = frame[1]
    keys = keys_touched(problem)
    told = {}
    found = {}
    for stand, way in ways.items():
        # What the piece does not touch is the same behind it: so like stands need be gone from but once.
        bare = laid(FIRST, values_on(stand, keys))
        if bare not in told:
            told[bare] = rows_to_ends(Ways((bare,) + problem[1:]), most)
        if told[bare] is None:
            return None
        for end, row in told[bare].items():
            behind = laid(stand, values_on(end, keys))
            found[behind] = way + tuple([piece[frame[2][x]] for x in row])
    return found


def keys_touched(problem):
    touched = []
    for item in problem[1]:
        touched.extend(keys_of(item[0]))
    return sorted(set(touched))


def values_on(stand, keys):
    return [(key, stand[key]) for key in keys]
