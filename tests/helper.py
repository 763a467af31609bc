"""What several tests need: odd things of every kind, and samples of each step with its answers."""

import copy

ODD_THINGS = [
    None, True, False, 0, 7, -1, 10 ** 39, "", "read", "refused", b"read",
    [], {}, set(), (), object, len,
    [1, 2], {"read": 1}, ((),), ([],), ({},), (None,), (True,), (b"read", 1),
    ("",), ("read",), ("read", 1, 2), ["read", 1], ("Read", 1), ("read ", 1),
    ("got",), ("got", None), ["got", 1], ("got", 1, 2), ("done", 1), ["done"], ("done", ()),
    ("yes", 1), ("no", 0), ("maybe",), ("all",), ("all", 1), ("all", []), ("each",), ("each", []), ("each", 1),
    ("refused", 1), ["refused"], ("refused", ()),
]

SINGLES = [("read", 2), ("write", 2, 5), ("add", 2, -3), ("swap", 2, 5, 6)]

# A step, and answers of it by its form (without refused).
ANSWERS = [
    (("read", 0), [("got", 0), ("got", -4), ("got", 10 ** 39)]),
    (("write", 1, 3), [("done",)]),
    (("add", 2, 3), [("got", 3), ("got", -1)]),
    (("swap", 3, 0, 1), [("yes",), ("no",)]),
    (("span", 2, 4), [("all", (0, 0)), ("all", (-5, 9))]),
    (("span", 0, 8), [("all", (0, 1, 2, 3, 4, 5, 6, 7))]),
    (("deal", (("read", 0),)), [("each", (("got", 4),))]),
    (
        ("deal", (("swap", 0, 1, 2), ("write", 0, 1), ("add", 7, 1), ("read", 3))),
        [
            ("each", (("yes",), ("done",), ("got", 1), ("got", 1))),
            ("each", (("no",), ("done",), ("got", 0), ("got", 2))),
        ],
    ),
    (("look", ("add", 2, 3)), [("got", 3)]),
    (("look", ("swap", 3, 0, 1)), [("yes",), ("no",)]),
    (("look", ("span", 7, 8)), [("all", (6,))]),
    (("look", ("deal", (("write", 0, 1), ("read", 0)))), [("each", (("done",), ("got", 1)))]),
    (("lay", ((0, 4),)), [("done",)]),
    (("lay", ((0, 4), (3, -1), (7, 0))), [("done",)]),
]


def told_alike(test, ask, things):
    """Asks twice, and holds that the answers are alike and that nothing handed in was changed."""
    kept = copy.deepcopy(things)
    once = ask(*things)
    twice = ask(*things)
    test.assertEqual(once, twice)
    test.assertEqual(kept, things)
    return once
