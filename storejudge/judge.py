"""The judge: of a problem a row, or a paper that shows that it has none, if either is found."""

from storejudge.cased import by_stands
from storejudge.forced import forced_by
from storejudge.problems import Ways, check_problem
from storejudge.stands import searched


def judge(problem, most):
    check_problem(problem)
    told = forced_by(problem)
    if told[0] == "ring":
        return ("paper", told)
    found = searched(narrowed(problem, told[1]), most)
    if found[0] == "row":
        return found
    # Nodes closed by what is forced need not be closed by the problem: so it is searched by itself.
    return by_stands(problem, most)


def narrowed(problem, pairs):
    """The ways of a problem to which its forced pairs are told: it has the same rows, and fewer nodes."""
    return Ways((problem[0], problem[1], problem[2] + tuple(pairs), problem[3]))
