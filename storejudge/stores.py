"""Stores: the promise of each, and what it does as hands work at it."""

from storejudge.calls import REFUSED, keys_of, left_by, may_change
from storejudge.errors import NoStore
from storejudge.promises import writes_alone
from storejudge.store import FIRST, done, laid

PROMISED = {"whole": "real", "late": "row", "looks": "snap", "torn": "thing", "copies": "hand", "loose": None}


def promise_of(store):
    if not isinstance(store, str) or store not in PROMISED:
        raise NoStore("this is no store")
    return PROMISED[store]


class Asked:
    """A deed as it goes on."""

    def __init__(self, number, hand, begin, call):
        self.number = number
        self.hand = hand
        self.begin = begin
        self.end = None
        self.call = call
        self.answer = None
        # The works done, by their keys; what they told; and the answer that comes of it, before it is given.
        self.works = []
        self.parts_told = {}
        self.found = None
        # Of looks: how many keys had been laid when its work was done.
        self.lays_seen = 0

    def is_answered(self):
        return self.answer is not None and self.answer != REFUSED


class Whole:
    """One work: the call is done on the stand. The other stores differ from this one."""

    def __init__(self):
        self.stand = FIRST
        # What was done, in order: pairs of a deed and what of it was done.
        self.trail = []

    def works_left(self, deed):
        """The keys of the next works; where a work is of no one key it counts as one of key 0."""
        return [0] if len(deed.works) == 0 else []

    def work(self, deed, key):
        told = done(self.stand, deed.call)
        deed.found = told[0]
        self.stand = told[1]
        self.trail.append((deed, None))

    def may_end(self, deed):
        return len(self.works_left(deed)) == 0

    def finish(self, deed):
        """What the store does as the deed ends: behind it the answer is found."""
        pass

    def may_refuse(self, deed):
        return len(deed.works) == 0

    def own_moves(self):
        return []

    def make_own(self, move):
        """Makes one of the store's own moves."""
        pass

    def order_of(self, name):
        """What was done for the problem of this name, in order: pairs of a deed's number and what of it was done."""
        return [(deed.number, None) for deed, what in self.trail]


class Torn(Whole):
    """A work for each key: all parts on it are done on the stand."""

    def works_left(self, deed):
        return [key for key in keys_of(deed.call) if key not in deed.works]

    def work(self, deed, key):
        for place, single in enumerate(singles_of(deed.call)):
            if single[1] == key:
                told = done(self.stand, single)
                deed.parts_told[place] = told[0]
                self.stand = told[1]
        self.trail.append((deed, key))

    def finish(self, deed):
        deed.found = put_together(deed.call, [deed.parts_told[place] for place in sorted(deed.parts_told)])

    def order_of(self, name):
        return [(deed.number, None) for deed, key in self.trail if key == name]


def singles_of(call):
    """The calls of one key of which a call is made up."""
    if call[0] == "span":
        return [("read", key) for key in keys_of(call)]
    return list(call[1]) if call[0] == "deal" else [call]


def put_together(call, answers):
    """The answer of a call, by those of the calls of one key of which it is made up."""
    if call[0] == "span":
        return ("all", tuple([answer[1] for answer in answers]))
    return ("each", tuple(answers)) if call[0] == "deal" else answers[0]


class Loose(Whole):
    """Two works: the first tells the answer, the second lays what is left by it."""

    def works_left(self, deed):
        return [0] if len(deed.works) < 2 else []

    def work(self, deed, key):
        if len(deed.works) == 0:
            deed.found = done(self.stand, deed.call)[0]
        else:
            self.stand = laid(self.stand, left_by(deed.call, deed.found))


class Looks(Whole):
    """The work tells the answer; what is left by it is laid as the deed ends, if no other laid it meanwhile."""

    def __init__(self):
        Whole.__init__(self)
        self.keys_laid = []

    def works_left(self, deed):
        return [] if writes_alone(deed.call) or len(deed.works) > 0 else [0]

    def work(self, deed, key):
        deed.found = done(self.stand, deed.call)[0]
        deed.lays_seen = len(self.keys_laid)
        self.trail.append((deed, "look"))

    def may_end(self, deed):
        if len(deed.works) == 0:
            return writes_alone(deed.call)
        laid_since = self.keys_laid[deed.lays_seen:]
        return not any([key in laid_since for key, value in left_by(deed.call, deed.found)])

    def finish(self, deed):
        # A call that had no work is answered alike at every stand.
        if len(deed.works) == 0:
            deed.found = done(self.stand, deed.call)[0]
        left = left_by(deed.call, deed.found)
        if len(left) > 0:
            self.stand = laid(self.stand, left)
            self.keys_laid.extend([key for key, value in left])
            self.trail.append((deed, "lay"))

    def may_refuse(self, deed):
        return True

    def order_of(self, name):
        return [(deed.number, what) for deed, what in self.trail if deed.is_answered()]


class Late(Whole):
    """Calls that may change make a log; the others are answered by as much of it as the hand knows."""

    def __init__(self, hands):
        Whole.__init__(self)
        self.log = []
        # The stands behind nothing of the log, behind its first call, and so on.
        self.stands = [FIRST]
        self.marks = [0 for hand in range(hands)]

    def work(self, deed, key):
        if may_change(deed.call):
            told = done(self.stands[-1], deed.call)
            self.log.append(deed)
            self.stands.append(told[1])
            self.marks[deed.hand] = len(self.log)
        else:
            told = done(self.stands[self.marks[deed.hand]], deed.call)
            self.trail.append((deed, self.marks[deed.hand]))
        deed.found = told[0]

    def own_moves(self):
        return [("catch", hand) for hand, known in enumerate(self.marks) if known < len(self.log)]

    def make_own(self, move):
        self.marks[move[1]] += 1

    def order_of(self, name):
        order = []
        for known in range(len(self.log) + 1):
            order.extend([deed for deed, mark in self.trail if mark == known and deed.is_answered()])
            order.extend(self.log[known:known + 1])
        return [(deed.number, None) for deed in order]


class Copies(Whole):
    """Each hand has a stand of its own; calls that may change are sent to the others, and brought later."""

    def __init__(self, hands):
        Whole.__init__(self)
        self.stands = [FIRST for hand in range(hands)]
        self.orders = [[] for hand in range(hands)]
        # Of each hand to, by each hand from, the deeds sent and not brought yet.
        self.sent = [[[] for hand in range(hands)] for other in range(hands)]

    def work(self, deed, key):
        hand = deed.hand
        told = done(self.stands[hand], deed.call)
        deed.found = told[0]
        self.stands[hand] = told[1]
        self.orders[hand].append(deed)
        if may_change(deed.call):
            self.trail.append((deed, None))
            for other in range(len(self.sent)):
                if other != hand:
                    self.sent[other][hand].append(deed)

    def own_moves(self):
        moves = []
        for hand, lots in enumerate(self.sent):
            moves.extend([("bring", hand, other) for other, lot in enumerate(lots) if len(lot) > 0])
        return moves

    def make_own(self, move):
        hand = move[1]
        deed = self.sent[hand][move[2]].pop(0)
        self.stands[hand] = done(self.stands[hand], deed.call)[1]
        self.orders[hand].append(deed)

    def order_of(self, name):
        order = [deed for deed in self.orders[name] if may_change(deed.call) or deed.is_answered()]
        numbers = [deed.number for deed in order]
        behind = [deed.number for deed, what in self.trail if deed.number not in numbers]
        return [(number, None) for number in numbers + behind]


def store_of(store, hands):
    """A store as it is at first, for so many hands."""
    if store == "whole":
        return Whole()
    if store == "late":
        return Late(hands)
    if store == "looks":
        return Looks()
    if store == "torn":
        return Torn()
    return Copies(hands) if store == "copies" else Loose()
