"""Rings: steps that tell which item stands ahead of which in every row, up to one ahead of itself."""

from storejudge.calls import LAST_KEY, is_key, word_of
from storejudge.kinds import is_tuple_of
from storejudge.problems import are_numbers, check_problem, marked
from storejudge.touches import touch

# Of each reason: what stands behind its word.
REASONS = {
    "told": (),
    "through": ("item",),
    "only": ("key",),
    "first": ("key",),
    "late": ("key", "item"),
    "early": ("key", "item"),
    "apart": ("item",),
}


class Touched:
    """What the items of a problem need and leave on the keys, listed so that it is found at once."""

    def __init__(self, problem):
        self.first = problem[0]
        self.needed = [{} for item in problem[1]]
        self.surely = [{} for item in problem[1]]
        self.leaving = {}
        self.leaving_any = {}
        for x, item in enumerate(problem[1]):
            for key in range(LAST_KEY + 1):
                self.take_touch(x, item, key)

    def take_touch(self, x, item, key):
        told = touch(item[0], item[1], key)
        left = told[1]
        if told[0] is not None:
            self.needed[x][key] = told[0]
        if left[0] == "is":
            self.surely[x][key] = left[1]
        if item[2] == "out":
            return
        if left[0] == "is":
            self.leaving.setdefault((key, left[1]), []).append(x)
        elif left[0] == "any":
            self.leaving_any.setdefault(key, []).append(x)

    def may_leave(self, key, value, but):
        """The items, but for one, that may leave the value on the key."""
        listed = self.leaving.get((key, value), []) + self.leaving_any.get(key, [])
        return [x for x in listed if x != but]

    def leaves_other(self, x, key, value):
        """Whether the item surely leaves another value than this one on the key."""
        return key in self.surely[x] and self.surely[x][key] != value


class Shown:
    """A problem, and what the steps taken so far have shown of it."""

    def __init__(self, problem):
        self.touched = Touched(problem)
        self.told_pairs = marked(problem[2])
        self.triples = marked(problem[3])
        self.pairs = {}
        self.standing = marked([x for x, item in enumerate(problem[1]) if item[2] == "must"])

    def take(self, x, y):
        self.pairs[(x, y)] = True
        self.standing[x] = True
        self.standing[y] = True


def ring_fault(problem, steps):
    check_problem(problem)
    return steps_fault(problem, steps)


def steps_fault(problem, steps):
    if not isinstance(steps, (list, tuple)):
        return ("form", 0)
    for number, thing in enumerate(steps):
        if not is_ring_step(thing, len(problem[1])):
            return ("form", number)
    shown = Shown(problem)
    for number, step in enumerate(steps):
        if not is_right(shown, step[0], step[1], step[2]):
            return ("step", number)
        shown.take(step[0], step[1])
    if len(steps) == 0 or steps[-1][0] != steps[-1][1]:
        return ("open",)
    return None


def is_ring_step(thing, count):
    return is_tuple_of(thing, 3) and are_numbers(thing[:2], count) and is_reason(thing[2], count)


def is_reason(thing, count):
    word = word_of(thing)
    if word not in REASONS or len(thing) != 1 + len(REASONS[word]):
        return False
    return all([is_told(kind, told, count) for kind, told in zip(REASONS[word], thing[1:])])


def is_told(kind, thing, count):
    return is_key(thing) if kind == "key" else are_numbers((thing,), count)


def is_right(shown, x, y, why):
    if why[0] == "through":
        return (x, why[1]) in shown.pairs and (why[1], y) in shown.pairs
    if x == y:
        return False
    if why[0] == "told":
        return (x, y) in shown.told_pairs and x in shown.standing and y in shown.standing
    if why[0] == "apart":
        return is_apart(shown, x, y, why[1])
    return is_right_on_key(shown, x, y, why)


def is_apart(shown, x, y, z):
    if (z, x, y) in shown.triples and (z, y) in shown.pairs:
        return True
    return (y, z, x) in shown.triples and (x, z) in shown.pairs


def needing(x, y, why):
    """The item whose need such a reason leans on."""
    if why[0] == "only":
        return y
    return why[2] if why[0] == "early" else x


def is_right_on_key(shown, x, y, why):
    touched = shown.touched
    key = why[1]
    needer = needing(x, y, why)
    if needer not in shown.standing or key not in touched.needed[needer]:
        return False
    value = touched.needed[needer][key]
    others = touched.may_leave(key, value, needer)
    if why[0] == "only":
        return others == [x] and touched.first[key] != value
    if why[0] == "first":
        return others == [] and y in shown.standing and touched.leaves_other(y, key, value)
    if why[0] == "late":
        return others == [why[2]] and (why[2], y) in shown.pairs and touched.leaves_other(y, key, value)
    return others == [y] and (x, why[2]) in shown.pairs and touched.leaves_other(x, key, value)
