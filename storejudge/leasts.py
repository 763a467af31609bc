"""A least lot of items that have no row together, of a problem without row."""

from storejudge.asides import with_aside
from storejudge.calls import keys_of
from storejudge.forced import forced_by
from storejudge.judge import narrowed
from storejudge.problems import check_problem
from storejudge.promises import keys_changed
from storejudge.stands import searched


def least(problem, most):
    check_problem(problem)
    told = row_told(problem, most)
    if told[0] != "none":
        return told
    held = []
    rows = []
    gone = []
    for x in [x for x, item in enumerate(problem[1]) if item[2] == "must"]:
        told = row_told(with_aside(problem, gone + [x]), most)
        if told[0] == "more":
            return told
        # A row with some set aside is one with more set aside too: so it stays one whatever goes later.
        if told[0] == "row":
            held.append(x)
            rows.append(told[1])
        else:
            gone.append(x)
    return ("least", tuple(held), rows)


def row_told(problem, most):
    """("row", a row of the problem), ("none",) where it has none, or ("more",)."""
    spared = without_idle(problem)
    told = forced_by(spared)
    if told[0] == "ring":
        return ("none",)
    found = searched(narrowed(spared, told[1]), most)
    return ("none",) if found[0] == "stands" else found


def without_idle(problem):
    """The problem with those mays out that change nothing that an answer of the other items tells of.

    Taken out of a row, they leave a row: so it has a row just where the problem has one, and fewer nodes.
    """
    busy = busy_items(problem[1])
    items = [item if x in busy else (item[0], item[1], "out") for x, item in enumerate(problem[1])]
    return (problem[0], tuple(items), problem[2], problem[3])


def busy_items(items):
    """The musts, and the mays that change a key of which the answer of a busy item tells."""
    busy = dict([(x, True) for x, item in enumerate(items) if item[2] == "must"])
    known = -1
    while known < len(busy):
        known = len(busy)
        told = keys_told(items, busy)
        for x, item in enumerate(items):
            if item[2] == "may" and any([key in told for key in keys_changed(item[0])]):
                busy[x] = True
    return busy


def keys_told(items, busy):
    """The keys on which the answers of these items hang."""
    told = {}
    for x in busy:
        if items[x][1] is not None:
            told.update([(key, True) for key in keys_asked(items[x][0])])
    return told


def keys_asked(step):
    """The keys on whose values the answer of a step hangs: whatever is written or laid is answered alike."""
    if step[0] == "lay":
        return ()
    if step[0] == "look":
        return keys_asked(step[1])
    if step[0] == "deal":
        return [part[1] for part in step[1] if part[0] != "write"]
    return () if step[0] == "write" else keys_of(step)
