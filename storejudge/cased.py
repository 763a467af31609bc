"""A problem gone through by cases: a row of it, or a paper that shows that it has none."""

from storejudge.forced import forced_by
from storejudge.papers import parted
from storejudge.problems import Ways, check_problem, marked
from storejudge.stands import searched


def cased(problem, deep, most):
    check_problem(problem)
    return by_cases(problem, deep, most)


def by_cases(problem, deep, most):
    told = forced_by(problem)
    if told[0] == "ring":
        return ("paper", told)
    parting = least_parting(problem, told[1]) if deep > 0 else None
    if parting is None:
        return by_stands(problem, most)
    papers = []
    for part in parted(problem, parting):
        found = by_cases(part, deep - 1, most)
        if found[0] != "paper":
            return found
        papers.append(found[1])
    return ("paper", parting + tuple(papers))


def by_stands(problem, most):
    told = searched(Ways(problem), most)
    return ("paper", told) if told[0] == "stands" else told


def least_parting(problem, pairs):
    """By what the problem is to be parted, None where there is nothing: its forced pairs are handed in."""
    items = problem[1]
    mays = [x for x, item in enumerate(items) if item[2] == "may"]
    if len(mays) > 0:
        return ("inout", mays[0])
    ordered = marked(pairs)
    musts = [x for x, item in enumerate(items) if item[2] == "must"]
    for x in musts:
        for y in musts:
            if x < y and (x, y) not in ordered and (y, x) not in ordered:
                return ("cases", x, y)
    return None
