"""Which promise implies which, and rows carried over from a stronger to a weaker one."""

from storejudge.calls import left_by
from storejudge.errors import NoProblem
from storejudge.histories import look_over
from storejudge.promises import check_promise, frames_of
from storejudge.verdicts import rows_fault

# Of each promise the others that it implies.
IMPLIED = {
    "real": ("row", "any", "snap", "stand", "hand", "thing", "kept"),
    "row": ("any", "snap", "stand", "hand", "kept"),
    "any": ("snap", "stand", "kept"),
    "snap": ("stand", "kept"),
    "stand": (),
    "hand": (),
    "thing": ("kept",),
    "kept": (),
}


def implies(strong, weak):
    check_promise(strong)
    check_promise(weak)
    return strong == weak or weak in IMPLIED[strong]


def carried(history, strong, rows, weak):
    look_over(history)
    if not implies(strong, weak):
        raise NoProblem("the one promise does not imply the other")
    frames = frames_of(history, strong)
    if rows_fault([problem for name, problem, deeds in frames], rows) is not None:
        raise NoProblem("these are no rows of the stronger promise")
    if strong == weak or (strong, weak) == ("snap", "stand"):
        return [tuple(row) for row in rows]
    return [carried_to(history, strong, frames, rows, target) for target in frames_of(history, weak)]


def carried_to(history, strong, frames, rows, target):
    """The row of the target, a frame of the weaker promise."""
    place = place_of(frames, target[0]) if strong == "thing" else 0
    row = rows[place]
    if strong == "snap":
        row = [x for x in row if comes_here(history, frames[place], x, target[0])]
    return in_order([frames[place][2][x] for x in row], target[2])


def place_of(frames, name):
    return [frame[0] for frame in frames].index(name)


def comes_here(history, source, x, key):
    """Whether, of a deed's look and lay, the item x is the one at which its part on the key comes."""
    word = source[1][1][x][0][0]
    deed = history[source[2][x]]
    if word not in ("look", "lay"):
        return True
    lays_key = key in [laid for laid, value in left_by(deed[3], deed[4])]
    return lays_key == (word == "lay")


def in_order(numbers, deeds):
    """The items of these deeds, in the order of the deeds' numbers; of one deed they come one behind the other."""
    found = {}
    for x, number in enumerate(deeds):
        found.setdefault(number, []).append(x)
    row = []
    for number in numbers:
        row.extend(found.get(number, []))
    return tuple(row)
