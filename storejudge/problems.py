"""Problems: their form, and what may come next in a row of one."""

from storejudge.calls import is_answer, is_step
from storejudge.errors import NoProblem
from storejudge.kinds import is_between, is_tuple_of
from storejudge.store import done, is_stand

WORDS = ("must", "may", "out")
MOST_ITEMS = 120
MOST_PAIRS = 4000
MOST_TRIPLES = 4000


def is_item(thing):
    if not is_tuple_of(thing, 3) or not is_step(thing[0]):
        return False
    if thing[1] is not None and not is_answer(thing[0], thing[1]):
        return False
    return isinstance(thing[2], str) and thing[2] in WORDS


def are_items(thing):
    return isinstance(thing, tuple) and len(thing) <= MOST_ITEMS and all([is_item(item) for item in thing])


def are_numbers(things, count):
    """Whether all of them are numbers of items, of which there are count."""
    return all([is_between(thing, 0, count - 1) for thing in things])


def are_unlike(thing, length, count):
    """Whether it is a tuple of this length of items' numbers, each once."""
    return is_tuple_of(thing, length) and are_numbers(thing, count) and len(set(thing)) == length


def are_pairs(thing, count):
    if not isinstance(thing, tuple) or len(thing) > MOST_PAIRS:
        return False
    return all([are_unlike(pair, 2, count) for pair in thing])


def are_triples(thing, items):
    if not isinstance(thing, tuple) or len(thing) > MOST_TRIPLES:
        return False
    if not all([are_unlike(triple, 3, len(items)) for triple in thing]):
        return False
    return all([items[x][2] == "must" and items[y][2] == "must" for x, y, z in thing])


def is_problem(thing):
    if not is_tuple_of(thing, 4) or not is_stand(thing[0]) or not are_items(thing[1]):
        return False
    return are_pairs(thing[2], len(thing[1])) and are_triples(thing[3], thing[1])


class Ways:
    """A problem, with its pairs and triples listed by the item that they hold back.

    Placed ones are asked for as a dict that has them as its keys: each is asked for often.
    """

    def __init__(self, problem):
        self.first = problem[0]
        self.listed = problem[1]
        self.musts = [x for x, item in enumerate(self.listed) if item[2] == "must"]
        self.ahead = [[] for item in self.listed]
        self.later = [[] for item in self.listed]
        self.gaps = [[] for item in self.listed]
        for x, y in problem[2]:
            self.later[x].append(y)
            if self.listed[x][2] == "must":
                self.ahead[y].append(x)
        for x, y, z in problem[3]:
            self.gaps[z].append((x, y))

    def may_follow(self, placed, x):
        if x in placed or self.listed[x][2] == "out":
            return False
        for y in self.ahead[x]:
            if y not in placed:
                return False
        for z in self.later[x]:
            if z in placed:
                return False
        for a, b in self.gaps[x]:
            if a in placed and b not in placed:
                return False
        return True

    def followers(self, placed):
        return [x for x in range(len(self.listed)) if self.may_follow(placed, x)]

    def stand_behind(self, stand, x):
        told = done(stand, self.listed[x][0])
        answer = self.listed[x][1]
        return told[1] if answer is None or answer == told[0] else None

    def missing(self, placed):
        return [x for x in self.musts if x not in placed]


def marked(things):
    """A dict that has these things as its keys."""
    return dict([(thing, True) for thing in things])


def check_problem(problem):
    if not is_problem(problem):
        raise NoProblem("this is no problem")


def ways_of(problem):
    check_problem(problem)
    return Ways(problem)


def with_pair(problem, x, y):
    """The problem with the pair (x, y) more, behind all others."""
    return (problem[0], problem[1], problem[2] + ((x, y),), problem[3])


def with_word(problem, x, word):
    """The problem with another word for its item x."""
    items = problem[1]
    item = (items[x][0], items[x][1], word)
    return (problem[0], items[:x] + (item,) + items[x + 1:], problem[2], problem[3])


def may_come(problem, placed):
    return ways_of(problem).followers(marked(placed))


def behind(problem, stand, item):
    return ways_of(problem).stand_behind(stand, item)
