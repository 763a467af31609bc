"""Promises: the problems that are to have rows where a history keeps one."""

from storejudge.calls import LAST_KEY, REFUSED, keys_of, left_by, may_change, part_on
from storejudge.errors import NoPromise
from storejudge.histories import look_over, really_ahead
from storejudge.store import FIRST

PROMISES = ("real", "row", "any", "snap", "stand", "hand", "thing", "kept")


def check_promise(promise):
    if not isinstance(promise, str) or promise not in PROMISES:
        raise NoPromise("this is no promise")


def problems_of(history, promise):
    return [(name, problem) for name, problem, deeds in frames_of(history, promise)]


def deeds_of(history, promise):
    return [deeds for name, problem, deeds in frames_of(history, promise)]


def frames_of(history, promise):
    """For each problem of the promise a tuple of its name, itself, and the deeds of its items."""
    look_over(history)
    check_promise(promise)
    return framed(history, promise)


def framed(history, promise):
    """As frames_of, of what is known to be a history and a promise."""
    if promise in ("real", "row", "any"):
        return [frame(history, promise, None, whole_entries(history))]
    if promise in ("snap", "stand"):
        return [frame(history, promise, None, look_entries(history))]
    if promise == "hand":
        hands = sorted(set([history[number][0] for number in taking_part(history)]))
        return [frame(history, promise, hand, hand_entries(history, hand)) for hand in hands]
    listed = [(key, key_entries(history, promise, key)) for key in range(LAST_KEY + 1)]
    return [frame(history, promise, key, entries) for key, entries in listed if len(entries) > 0]


def frame(history, promise, name, entries):
    """A problem's frame, by its entries: a pair of an item and the number of its deed for each item."""
    items = tuple([item for item, number in entries])
    deeds = tuple([number for item, number in entries])
    before = ()
    apart = ()
    if promise in ("real", "thing"):
        before = pairs_where(history, deeds, really_ahead)
    elif promise in ("row", "hand"):
        before = pairs_where(history, deeds, ahead_by_hand)
    elif promise == "snap":
        looks = looks_with_lays(deeds)
        before = tuple([(x, x + 1) for x in looks])
        apart = triples_of(items, looks)
    return (name, (FIRST, items, before, apart), deeds)


def taking_part(history):
    """The numbers of the deeds that are not refused, by their begins."""
    numbers = [number for number, deed in enumerate(history) if deed[4] != REFUSED]
    return sorted(numbers, key=lambda number: history[number][1])


def entry(history, number, step, answer):
    word = "may" if history[number][2] is None else "must"
    return ((step, answer, word), number)


def whole_entries(history):
    return [entry(history, number, history[number][3], history[number][4]) for number in taking_part(history)]


def look_entries(history):
    entries = []
    for number in taking_part(history):
        call = history[number][3]
        answer = history[number][4]
        if answer is None:
            entries.append(entry(history, number, call, None))
            continue
        if not writes_alone(call):
            entries.append(entry(history, number, ("look", call), answer))
        left = left_by(call, answer)
        if len(left) > 0:
            entries.append(entry(history, number, ("lay", left), ("done",)))
    return entries


def hand_entries(history, hand):
    entries = []
    for number in taking_part(history):
        deed = history[number]
        if deed[0] == hand:
            entries.append(entry(history, number, deed[3], deed[4]))
        elif may_change(deed[3]):
            entries.append(entry(history, number, deed[3], None))
    return entries


def key_entries(history, promise, key):
    entries = []
    for number in taking_part(history):
        told = part_on(history[number][3], history[number][4], key)
        if told is not None and (promise == "thing" or may_change(told[0])):
            entries.append(entry(history, number, told[0], told[1]))
    return entries


def writes_alone(call):
    parts = call[1] if call[0] == "deal" else (call,)
    return all([one[0] == "write" for one in parts])


def ahead_by_hand(history, a, b):
    return history[a][0] == history[b][0] and history[a][1] < history[b][1]


def pairs_where(history, deeds, is_ahead):
    pairs = []
    for x, a in enumerate(deeds):
        for y, b in enumerate(deeds):
            if is_ahead(history, a, b):
                pairs.append((x, y))
    return tuple(pairs)


def looks_with_lays(deeds):
    """The items that are a look with a lay of the same deed, which stands right behind it."""
    return [x for x in range(len(deeds) - 1) if deeds[x] == deeds[x + 1]]


def triples_of(items, looks):
    triples = []
    for x in looks:
        for z in range(len(items)):
            if z != x + 1 and change_one_key(items[x + 1][0], items[z][0]):
                triples.append((x, x + 1, z))
    return tuple(triples)


def change_one_key(lay, step):
    changed = keys_changed(step)
    return any([key in changed for key in keys_changed(lay)])


def keys_changed(step):
    """The keys that a lay lays, or on which the part of a call may change; none of a look."""
    if step[0] == "lay":
        return [key for key, value in step[1]]
    if step[0] == "look":
        return []
    return [key for key in keys_of(step) if may_change(part_on(step, None, key)[0])]
