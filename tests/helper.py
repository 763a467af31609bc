"""What several tests need: odd things of every kind, and samples of each step with its answers."""

import copy
import itertools

from storejudge.problems import behind, may_come
from storejudge.promises import PROMISES
from storejudge.store import done
from storejudge.touches import leaves, needs

ODD_THINGS = [
    None, True, False, 0, 7, -1, 10 ** 39, "", "read", "refused", b"read",
    [], {}, set(), (), object, len,
    [1, 2], {"read": 1}, ((),), ([],), ({},), (None,), (True,), (b"read", 1),
    ("",), ("read",), ("read", 1, 2), ["read", 1], ("Read", 1), ("read ", 1),
    ("got",), ("got", None), ["got", 1], ("got", 1, 2), ("done", 1), ["done"], ("done", ()),
    ("yes", 1), ("no", 0), ("maybe",), ("all",), ("all", 1), ("all", []), ("each",), ("each", []), ("each", 1),
    ("refused", 1), ["refused"], ("refused", ()),
]

SINGLES = [("read", 2), ("write", 2, 5), ("add", 2, -3), ("swap", 2, 5, 6)]

# A step, and answers of it by its form (without refused).
ANSWERS = [
    (("read", 0), [("got", 0), ("got", -4), ("got", 10 ** 39)]),
    (("write", 1, 3), [("done",)]),
    (("add", 2, 3), [("got", 3), ("got", -1)]),
    (("swap", 3, 0, 1), [("yes",), ("no",)]),
    (("span", 2, 4), [("all", (0, 0)), ("all", (-5, 9))]),
    (("span", 0, 8), [("all", (0, 1, 2, 3, 4, 5, 6, 7))]),
    (("deal", (("read", 0),)), [("each", (("got", 4),))]),
    (
        ("deal", (("swap", 0, 1, 2), ("write", 0, 1), ("add", 7, 1), ("read", 3))),
        [
            ("each", (("yes",), ("done",), ("got", 1), ("got", 1))),
            ("each", (("no",), ("done",), ("got", 0), ("got", 2))),
        ],
    ),
    (("look", ("add", 2, 3)), [("got", 3)]),
    (("look", ("swap", 3, 0, 1)), [("yes",), ("no",)]),
    (("look", ("span", 7, 8)), [("all", (6,))]),
    (("look", ("deal", (("write", 0, 1), ("read", 0)))), [("each", (("done",), ("got", 1)))]),
    (("lay", ((0, 4),)), [("done",)]),
    (("lay", ((0, 4), (3, -1), (7, 0))), [("done",)]),
]


def told_alike(test, ask, things):
    """Asks twice, and holds that the answers are alike and that nothing handed in was changed."""
    kept = copy.deepcopy(things)
    once = ask(*things)
    twice = ask(*things)
    test.assertEqual(once, twice)
    test.assertEqual(kept, things)
    return once


def own_list(test, ask, things):
    """As told_alike, of a list: emptied by the asker, it is told again."""
    once = told_alike(test, ask, things)
    test.assertIsInstance(once, list)
    kept = list(once)
    once.clear()
    test.assertEqual(ask(*things), kept)
    return kept


NO_PROBLEMS = ODD_THINGS + [
    ((0,) * 8, (), ()),
    ((0,) * 8, (), (), (), ()),
    [(0,) * 8, (), (), ()],
    ((0,) * 7, (), (), ()),
    ((0,) * 8, [], (), ()),
    ((0,) * 8, (), [], ()),
    ((0,) * 8, (), (), []),
    ((0,) * 8, (), ((0, 1),), ()),
    ((0,) * 8, ((("read", 0), None),), (), ()),
]


def random_item(chance):
    """An item on few keys and values, so that answers go together now and then."""
    key, value, other = chance.randrange(2), chance.randrange(2), chance.randrange(2)
    single = chance.choice([("read", key), ("write", key, value), ("add", key, value), ("swap", key, value, other)])
    again = chance.choice([("read", key), ("write", 1, other), ("add", key, 1), ("swap", key, other, value)])
    deal = ("deal", (single, again))
    step = chance.choice([
        single, single, single, ("span", 0, chance.randrange(1, 3)), deal, ("look", chance.choice([single, deal])),
        ("lay", ((key, value),)), ("lay", ((0, value), (1, other))),
    ])
    answer = chance.choice([None, random_answer(chance, step), random_answer(chance, step)])
    return (step, answer, chance.choice(["must", "must", "must", "may", "out"]))


def random_answer(chance, step):
    word = step[0]
    if word in ("read", "add"):
        return ("got", chance.randrange(2))
    if word in ("write", "lay"):
        return ("done",)
    if word == "swap":
        return (chance.choice(["yes", "no"]),)
    if word == "span":
        return ("all", tuple(chance.randrange(2) for _ in range(step[2] - step[1])))
    if word == "look":
        return random_answer(chance, step[1])
    return ("each", tuple(random_answer(chance, part) for part in step[1]))


def random_problem(chance):
    items = tuple(random_item(chance) for _ in range(chance.randrange(6)))
    numbers = range(len(items))
    musts = [x for x in numbers if items[x][2] == "must"]
    before = ()
    apart = ()
    if len(items) > 1:
        before = tuple(tuple(chance.sample(numbers, 2)) for _ in range(chance.randrange(3)))
    if len(items) > 2 and len(musts) > 1:
        for _ in range(chance.randrange(3)):
            x, y = chance.sample(musts, 2)
            apart += ((x, y, chance.choice([z for z in numbers if z not in (x, y)])),)
    first = (chance.randrange(2), chance.randrange(2)) + (0,) * 6
    return (first, items, before, apart)


def random_tight_problem(chance, most=4):
    """Writes and reads of few values, with many pairs and triples, so that every reason of a ring is come to."""
    items = []
    for _ in range(chance.randrange(2, most + 1)):
        key, value = chance.choice([0, 0, 1]), chance.randrange(4)
        step, answer = chance.choice([
            (("write", key, value), ("done",)), (("write", key, value), ("done",)), (("read", key), ("got", value)),
            (("read", key), ("got", value)), (("add", key, 1), ("got", value)), (("add", key, 1), None),
            (("swap", key, value, 3), ("yes",)), (("lay", ((0, value), (1, 2))), None),
            (("deal", (("read", 0), ("write", 1, value))), ("each", (("got", value), ("done",)))),
        ])
        items.append((step, answer, chance.choice(["must"] * 6 + ["may", "out"])))
    numbers = range(len(items))
    musts = [x for x in numbers if items[x][2] == "must"]
    before = tuple(tuple(chance.sample(numbers, 2)) for _ in range(chance.randrange(4)))
    apart = ()
    if len(items) > 2 and len(musts) > 1:
        for _ in range(chance.randrange(3)):
            x, y = chance.sample(musts, 2)
            apart += ((x, y, chance.choice([z for z in numbers if z not in (x, y)])),)
    first = (chance.randrange(3), chance.randrange(3)) + (0,) * 6
    return (first, tuple(items), before, apart)


def is_row(problem, row):
    """[13], word by word."""
    first, items, before, apart = problem
    if len(set(row)) < len(row) or any(items[x][2] == "out" for x in row):
        return False
    if any(item[2] == "must" and x not in row for x, item in enumerate(items)):
        return False
    place = {x: k for k, x in enumerate(row)}
    if any(x in place and y in place and place[x] > place[y] for x, y in before):
        return False
    if any(z in place and place[x] < place[z] < place[y] for x, y, z in apart):
        return False
    stand = first
    for x in row:
        answer, stand = done(stand, items[x][0])
        if items[x][1] not in (None, answer):
            return False
    return True


def all_nodes(problem):
    """All nodes that can be come to, by way of all rows and their beginnings."""
    nodes = [((), problem[0])]
    for node in nodes:
        for x in may_come(problem, node[0]):
            stand = behind(problem, node[1], x)
            after = (tuple(sorted(node[0] + (x,))), stand)
            if stand is not None and after not in nodes:
                nodes.append(after)
    return nodes


def all_rows(problem):
    """All rows, by going through all orders of all lots of items."""
    numbers = [x for x, item in enumerate(problem[1]) if item[2] != "out"]
    rows = []
    for length in range(len(numbers) + 1):
        rows += [row for row in itertools.permutations(numbers, length) if is_row(problem, row)]
    return rows


def write(value, word="must", key=0):
    return (("write", key, value), ("done",), word)


def read(value, word="must", key=0):
    return (("read", key), ("got", value), word)


def all_whys(count, keys):
    """All reasons by their form, on these keys."""
    numbers = range(count)
    whys = [("told",)]
    whys += [(word, x) for word in ("through", "apart") for x in numbers]
    whys += [(word, key) for word in ("only", "first") for key in keys]
    whys += [(word, key, x) for word in ("late", "early") for key in keys for x in numbers]
    return whys


def all_steps(count, keys):
    return list(itertools.product(range(count), range(count), all_whys(count, keys)))


def right_by_the_words(problem, ahead, step):
    """[22], word by word: whether the step is right behind the ones ahead."""
    first, items, before, apart = problem
    x, y, why = step
    pairs = [(a, b) for a, b, _ in ahead]
    standing = [a for a, item in enumerate(items) if item[2] == "must"] + [a for pair in pairs for a in pair]

    def may_leave(key, value, besides):
        lot = [a for a, item in enumerate(items) if item[2] != "out" and a != besides]
        return [a for a in lot if leaves(items[a], key) in (("is", value), ("any",))]

    def leaves_another(a, key, value):
        return leaves(items[a], key)[0] == "is" and leaves(items[a], key) != ("is", value)

    if why[0] == "through":
        return (x, why[1]) in pairs and (why[1], y) in pairs
    if x == y:
        return False
    if why[0] == "told":
        return (x, y) in before and x in standing and y in standing
    if why[0] == "apart":
        z = why[1]
        return ((z, x, y) in apart and (z, y) in pairs) or ((y, z, x) in apart and (x, z) in pairs)
    key = why[1]
    if why[0] == "only":
        v = needs(items[y], key)
        return y in standing and v is not None and first[key] != v and may_leave(key, v, y) == [x]
    if why[0] == "first":
        v = needs(items[x], key)
        return (x in standing and v is not None and may_leave(key, v, x) == []
                and y in standing and leaves_another(y, key, v))
    if why[0] == "late":
        v = needs(items[x], key)
        return (x in standing and v is not None and may_leave(key, v, x) == [why[2]]
                and (why[2], y) in pairs and leaves_another(y, key, v))
    v = needs(items[why[2]], key)
    return (why[2] in standing and v is not None and may_leave(key, v, why[2]) == [y]
            and (x, why[2]) in pairs and leaves_another(x, key, v))


def random_call(chance, keys=2, values=3):
    def single():
        key, value = chance.randrange(keys), chance.randrange(values)
        return chance.choice([
            ("read", key), ("read", key), ("write", key, value), ("write", key, value), ("add", key, 1),
            ("swap", key, value, chance.randrange(values)),
        ])

    if chance.randrange(4) > 0:
        return single()
    low = chance.randrange(keys)
    return chance.choice([
        ("span", low, chance.randrange(low, keys) + 1),
        ("deal", tuple(single() for _ in range(chance.randrange(1, 4)))),
        ("deal", tuple(("write", chance.randrange(keys), chance.randrange(values)) for _ in range(2))),
    ])


def random_history(chance, hands=3, deeds=6, wrong=0, **kinds):
    """What a plain store did for some hands, deeds listed in any order; wrong: so many answers are made up."""
    stand, time, told, busy = (0,) * 8, 0, [], {}
    while len(told) < deeds or (busy and chance.randrange(8) > 0):
        time += chance.randrange(1, 4)
        hand = chance.randrange(hands)
        if hand not in busy:
            if len(told) < deeds:
                busy[hand] = len(told)
                told.append([hand, time, None, random_call(chance, **kinds), None])
        elif len(told[busy[hand]]) == 5 and chance.randrange(12) > 0:
            answer, stand = done(stand, told[busy[hand]][3])
            told[busy[hand]].append(answer)
        else:
            deed = told[busy.pop(hand)]
            deed[2] = time
            deed[4] = deed[5] if len(deed) == 6 else ("refused",)
    for deed in chance.sample(told, min(wrong, len(told))):
        if deed[2] is not None:
            deed[4] = random_answer(chance, deed[3])
    chance.shuffle(told)
    return tuple(tuple(deed[:5]) for deed in told)


def did_write(hand, begin, end, value, key=0):
    return (hand, begin, end, ("write", key, value), None if end is None else ("done",))


def did_read(hand, begin, end, value, key=0):
    return (hand, begin, end, ("read", key), ("got", value))


def did_add(hand, begin, end, value, key=0):
    return (hand, begin, end, ("add", key, 1), ("got", value))


# What breaks which promise: each history with the promises that it keeps.
KEEPS = [
    ((), PROMISES),
    ((did_write(0, 0, 1, 5), did_read(1, 2, 3, 5)), PROMISES),
    # A stale read.
    ((did_write(0, 0, 1, 5), did_read(1, 2, 3, 0)), ("row", "any", "snap", "stand", "hand", "kept")),
    # A hand does not see what it wrote.
    ((did_write(0, 0, 1, 5), did_read(0, 2, 3, 0)), ("any", "snap", "stand", "kept")),
    # A value that nobody wrote.
    ((did_write(0, 0, 1, 5), did_read(1, 2, 3, 9)), ("kept",)),
    # Two hands see two writes in either order.
    ((did_write(0, 0, 1, 5), did_write(1, 2, 3, 6), did_read(2, 4, 5, 5), did_read(2, 6, 7, 6),
      did_read(3, 8, 9, 6), did_read(3, 10, 11, 5)),
     ("hand", "kept", "any", "snap", "stand")),
    # An add is lost: both got 1.
    ((did_add(0, 0, 5, 1), did_add(1, 1, 6, 1)), ("stand", "hand")),
    # Each reads what the other one is about to write: skewed, but a snap.
    (((0, 0, 9, ("deal", (("read", 0), ("write", 1, 1))), ("each", (("got", 0), ("done",)))),
      (1, 1, 10, ("deal", (("read", 1), ("write", 0, 1))), ("each", (("got", 0), ("done",))))),
     ("snap", "stand", "thing", "kept", "hand")),
    # Two writes are seen by two spans, each without the other one.
    ((did_write(0, 0, 11, 1), did_write(1, 1, 12, 1, 1), (2, 2, 13, ("span", 0, 2), ("all", (1, 0))),
      (3, 3, 14, ("span", 0, 2), ("all", (0, 1)))),
     ("hand", "thing", "kept")),
    # One key is seen ahead of both writes, the other one behind them; then so, but all at one time.
    ((did_write(0, 0, 1, 5), did_write(0, 2, 3, 5, 1), (1, 4, 9, ("span", 0, 2), ("all", (0, 5)))),
     ("any", "snap", "stand", "kept")),
    ((did_write(0, 1, 2, 5), did_write(0, 3, 4, 5, 1), (1, 0, 9, ("span", 0, 2), ("all", (0, 5)))),
     ("any", "snap", "stand", "thing", "kept")),
]
