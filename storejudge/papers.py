"""Papers, which show that a problem has no row: the fault of one, whoever wrote it."""

from storejudge.calls import is_worded
from storejudge.problems import Ways, are_unlike, check_problem, with_pair, with_word
from storejudge.rings import steps_fault
from storejudge.stands import nodes_fault

MOST_DEEP = 12

# Of each kind of paper: how many things stand in it, its word counted.
LENGTHS = {"stands": 2, "ring": 2, "cases": 5, "inout": 4}


def paper_fault(problem, paper):
    check_problem(problem)
    return fault_at(problem, paper, ())


def fault_at(problem, paper, path):
    """The fault of a paper to which the path leads, by its own problem."""
    word = kind_of(paper)
    if word is None:
        return (path, "form")
    if word == "stands":
        return with_path(path, nodes_fault(Ways(problem), paper[1]))
    if word == "ring":
        return with_path(path, steps_fault(problem, paper[1]))
    if len(path) == MOST_DEEP:
        return (path, "form")
    if not parts_rightly(problem, paper):
        return (path, "case")
    parts = parted(problem, paper[:-2])
    fault = fault_at(parts[0], paper[-2], path + ("one",))
    return fault if fault is not None else fault_at(parts[1], paper[-1], path + ("two",))


def kind_of(paper):
    for word, length in LENGTHS.items():
        if is_worded(paper, word, length):
            return word
    return None


def with_path(path, fault):
    return None if fault is None else (path,) + fault


def parts_rightly(problem, paper):
    """Whether a cases tells two unlike musts, an inout a may."""
    told = paper[1:-2]
    if not are_unlike(told, len(told), len(problem[1])):
        return False
    word = "must" if paper[0] == "cases" else "may"
    return all([problem[1][x][2] == word for x in told])


def parted(problem, parting):
    """The problems of a paper's one and two, what parts them told as ("cases", x, y) or ("inout", x)."""
    x = parting[1]
    if parting[0] == "cases":
        y = parting[2]
        return (with_pair(problem, x, y), with_pair(problem, y, x))
    return (with_word(problem, x, "must"), with_word(problem, x, "out"))
