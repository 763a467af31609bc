"""Rows of problems: the fault of one, if it has any."""

from storejudge.problems import are_numbers, ways_of


def row_fault(problem, row):
    ways = ways_of(problem)
    if not isinstance(row, (list, tuple)) or not are_numbers(row, len(problem[1])):
        return ("form",)
    placed = {}
    stand = ways.first
    for place, x in enumerate(row):
        if not ways.may_follow(placed, x):
            return ("place", place)
        stand = ways.stand_behind(stand, x)
        if stand is None:
            return ("answer", place)
        placed[x] = True
    missing = ways.missing(placed)
    return ("missing", missing[0]) if len(missing) > 0 else None
