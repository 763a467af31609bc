"""Rows of a history's groups, joined to one row of the whole."""

from storejudge.carried import in_order
from storejudge.errors import NoProblem
from storejudge.groups import groups, part
from storejudge.promises import deeds_of, frames_of
from storejudge.verdicts import rows_fault


def joined(history, rows):
    lots = [numbers for keys, numbers in groups(history)]
    frames = [frames_of(part(history, numbers), "real")[0] for numbers in lots]
    if rows_fault([problem for name, problem, deeds in frames], rows) is not None:
        raise NoProblem("these are no rows of the groups")
    timed = []
    for place, row in enumerate(rows):
        deeds = frames[place][2]
        timed.extend(with_latest(history, [lots[place][deeds[x]] for x in row]))
    # No begin is in two rows, and sorting keeps the order of what is alike: so each row stays in its order.
    ordered = sorted(timed, key=lambda pair: pair[0])
    return in_order([number for latest, number in ordered], deeds_of(history, "real")[0])


def with_latest(history, numbers):
    """The deeds in their order, each in a pair behind the latest begin up to it.

    A deed really ahead of another one ended behind all begins up to it in its own row, and below the begin of
    the other one: so by these begins it comes first, of whatever rows the two are.
    """
    latest = -1
    pairs = []
    for number in numbers:
        latest = max(latest, history[number][1])
        pairs.append((latest, number))
    return pairs
