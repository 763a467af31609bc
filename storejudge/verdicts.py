"""Verdicts on a history by a promise, and the fault of one."""

from storejudge.calls import is_worded
from storejudge.judge import judge
from storejudge.kinds import is_between
from storejudge.papers import paper_fault
from storejudge.promises import problems_of
from storejudge.rows import row_fault


def judged(history, promise, most):
    rows = []
    too_long = []
    for number, named in enumerate(problems_of(history, promise)):
        told = judge(named[1], most)
        if told[0] == "paper":
            return ("broken", number, told[1])
        if told[0] == "more":
            too_long.append(number)
        else:
            rows.append(told[1])
    return ("more", too_long[0]) if len(too_long) > 0 else ("kept", rows)


def verdict_fault(history, promise, verdict):
    problems = [problem for name, problem in problems_of(history, promise)]
    if is_worded(verdict, "kept", 2):
        return rows_fault(problems, verdict[1])
    if is_worded(verdict, "broken", 3) and is_number_of(verdict[1], problems):
        fault = paper_fault(problems[verdict[1]], verdict[2])
        return None if fault is None else ("paper", fault)
    if is_worded(verdict, "more", 2) and is_number_of(verdict[1], problems):
        return None
    return ("form",)


def is_number_of(thing, problems):
    return is_between(thing, 0, len(problems) - 1)


def rows_fault(problems, rows):
    """The fault of rows, one for each problem: of their form, or of the first that has one."""
    if not isinstance(rows, (list, tuple)) or len(rows) != len(problems):
        return ("form",)
    for number, row in enumerate(rows):
        fault = row_fault(problems[number], row)
        if fault is not None:
            return ("row", number, fault)
    return None
