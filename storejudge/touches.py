"""Touches: what an item needs on a key and what it leaves there, by its step and answer alone."""

from storejudge.calls import REFUSED, part_on, parts_of, value_left

NOTHING = ("none",)


def needs(item, key):
    return touch(item[0], item[1], key)[0]


def leaves(item, key):
    return touch(item[0], item[1], key)[1]


def touch(step, answer, key):
    """What the step with this answer needs and what it leaves, as a pair."""
    if answer == REFUSED:
        return (None, NOTHING)
    if step[0] == "lay":
        values = [value for laid, value in step[1] if laid == key]
        return (None, left_as(values[0], True) if len(values) > 0 else NOTHING)
    if step[0] == "look":
        return (touch(step[1], answer, key)[0], NOTHING)
    part = part_on(step, answer, key)
    if part is None:
        return (None, NOTHING)
    if answer is None:
        return (None, left_unanswered(part[0]))
    parts = parts_of(part[0], part[1])
    return (needed_first(parts), left_answered(parts))


def left_as(known, changed):
    """What is left, by what is known of the key in the end (None: nothing) and whether it is changed."""
    if not changed:
        return NOTHING
    return ("any",) if known is None else ("is", known)


def needed_first(parts):
    """What the first part needs that tells it while nothing is changed."""
    for part, told in parts:
        if part[0] == "read":
            return told[1]
        if part[0] == "add":
            return told[1] - part[2]
        if part[0] == "swap" and told == ("yes",):
            return part[2]
        if part[0] == "write":
            return None
    return None


def left_answered(parts):
    known = None
    changed = False
    for part, told in parts:
        if part[0] == "read":
            # Answers need not go together: a read behind a change tells anew what is known.
            known = told[1]
        elif value_left(part, told) is not None:
            known = value_left(part, told)
            changed = True
    return left_as(known, changed)


def left_unanswered(call):
    known = None
    changed = False
    for part, told in parts_of(call, None):
        if part[0] == "write":
            known = part[2]
            changed = True
        elif part[0] == "add":
            known = None if known is None else known + part[2]
            changed = True
        elif part[0] == "swap" and known is None:
            changed = True
        elif part[0] == "swap" and known == part[2]:
            known = part[3]
            changed = True
    return left_as(known, changed)
