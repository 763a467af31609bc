"""What several tests need: odd things of every kind, and samples of each step with its answers."""

import copy

ODD_THINGS = [
    None, True, False, 0, 7, -1, 10 ** 39, "", "read", "refused", b"read",
    [], {}, set(), (), object, len,
    [1, 2], {"read": 1}, ((),), ([],), ({},), (None,), (True,), (b"read", 1),
    ("",), ("read",), ("read", 1, 2), ["read", 1], ("Read", 1), ("read ", 1),
    ("got",), ("got", None), ["got", 1], ("got", 1, 2), ("done", 1), ["done"], ("done", ()),
    ("yes", 1), ("no", 0), ("maybe",), ("all",), ("all", 1), ("all", []), ("each",), ("each", []), ("each", 1),
    ("refused", 1), ["refused"], ("refused", ()),
]

SINGLES = [("read", 2), ("write", 2, 5), ("add", 2, -3), ("swap", 2, 5, 6)]

# A step, and answers of it by its form (without refused).
ANSWERS = [
    (("read", 0), [("got", 0), ("got", -4), ("got", 10 ** 39)]),
    (("write", 1, 3), [("done",)]),
    (("add", 2, 3), [("got", 3), ("got", -1)]),
    (("swap", 3, 0, 1), [("yes",), ("no",)]),
    (("span", 2, 4), [("all", (0, 0)), ("all", (-5, 9))]),
    (("span", 0, 8), [("all", (0, 1, 2, 3, 4, 5, 6, 7))]),
    (("deal", (("read", 0),)), [("each", (("got", 4),))]),
    (
        ("deal", (("swap", 0, 1, 2), ("write", 0, 1), ("add", 7, 1), ("read", 3))),
        [
            ("each", (("yes",), ("done",), ("got", 1), ("got", 1))),
            ("each", (("no",), ("done",), ("got", 0), ("got", 2))),
        ],
    ),
    (("look", ("add", 2, 3)), [("got", 3)]),
    (("look", ("swap", 3, 0, 1)), [("yes",), ("no",)]),
    (("look", ("span", 7, 8)), [("all", (6,))]),
    (("look", ("deal", (("write", 0, 1), ("read", 0)))), [("each", (("done",), ("got", 1)))]),
    (("lay", ((0, 4),)), [("done",)]),
    (("lay", ((0, 4), (3, -1), (7, 0))), [("done",)]),
]


def told_alike(test, ask, things):
    """Asks twice, and holds that the answers are alike and that nothing handed in was changed."""
    kept = copy.deepcopy(things)
    once = ask(*things)
    twice = ask(*things)
    test.assertEqual(once, twice)
    test.assertEqual(kept, things)
    return once


def own_list(test, ask, things):
    """As told_alike, of a list: emptied by the asker, it is told again."""
    once = told_alike(test, ask, things)
    test.assertIsInstance(once, list)
    kept = list(once)
    once.clear()
    test.assertEqual(ask(*things), kept)
    return kept


NO_PROBLEMS = ODD_THINGS + [
    ((0,) * 8, (), ()),
    ((0,) * 8, (), (), (), ()),
    [(0,) * 8, (), (), ()],
    ((0,) * 7, (), (), ()),
    ((0,) * 8, [], (), ()),
    ((0,) * 8, (), [], ()),
    ((0,) * 8, (), (), []),
    ((0,) * 8, (), ((0, 1),), ()),
    ((0,) * 8, ((("read", 0), None),), (), ()),
]


def random_item(chance):
    """An item on few keys and values, so that answers go together now and then."""
    key, value, other = chance.randrange(2), chance.randrange(2), chance.randrange(2)
    single = chance.choice([("read", key), ("write", key, value), ("add", key, value), ("swap", key, value, other)])
    again = chance.choice([("read", key), ("write", 1, other), ("add", key, 1), ("swap", key, other, value)])
    deal = ("deal", (single, again))
    step = chance.choice([
        single, single, single, ("span", 0, chance.randrange(1, 3)), deal, ("look", chance.choice([single, deal])),
        ("lay", ((key, value),)), ("lay", ((0, value), (1, other))),
    ])
    answer = chance.choice([None, random_answer(chance, step), random_answer(chance, step)])
    return (step, answer, chance.choice(["must", "must", "must", "may", "out"]))


def random_answer(chance, step):
    word = step[0]
    if word in ("read", "add"):
        return ("got", chance.randrange(2))
    if word in ("write", "lay"):
        return ("done",)
    if word == "swap":
        return (chance.choice(["yes", "no"]),)
    if word == "span":
        return ("all", tuple(chance.randrange(2) for _ in range(step[2] - step[1])))
    if word == "look":
        return random_answer(chance, step[1])
    return ("each", tuple(random_answer(chance, part) for part in step[1]))


def random_problem(chance):
    items = tuple(random_item(chance) for _ in range(chance.randrange(6)))
    numbers = range(len(items))
    musts = [x for x in numbers if items[x][2] == "must"]
    before = ()
    apart = ()
    if len(items) > 1:
        before = tuple(tuple(chance.sample(numbers, 2)) for _ in range(chance.randrange(3)))
    if len(items) > 2 and len(musts) > 1:
        for _ in range(chance.randrange(3)):
            x, y = chance.sample(musts, 2)
            apart += ((x, y, chance.choice([z for z in numbers if z not in (x, y)])),)
    first = (chance.randrange(2), chance.randrange(2)) + (0,) * 6
    return (first, items, before, apart)
