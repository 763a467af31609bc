"""Histories made by a store: hands ask by their plans, and picks tell what comes next."""

from storejudge.calls import REFUSED
from storejudge.promises import framed
from storejudge.stores import Asked, promise_of, store_of


class Making:
    """A history that is being made."""

    def __init__(self, store, plans):
        self.shop = store_of(store, len(plans))
        self.plans = plans
        self.begun = []
        # Of each hand: its deed that is going on, and how many of its calls it has begun.
        self.going = [None for plan in plans]
        self.begun_by = [0 for plan in plans]

    def moves(self):
        """The moves that may be made, in their order."""
        shop = self.shop
        going = [deed for deed in self.going if deed is not None]
        moves = [("begin", hand) for hand, plan in enumerate(self.plans) if self.may_begin(hand, plan)]
        for deed in going:
            moves.extend([("work", deed.hand, key) for key in shop.works_left(deed)])
        moves.extend([("end", deed.hand) for deed in going if shop.may_end(deed)])
        moves.extend([("refuse", deed.hand) for deed in going if shop.may_refuse(deed)])
        return moves + shop.own_moves()

    def may_begin(self, hand, plan):
        return self.going[hand] is None and self.begun_by[hand] < len(plan)

    def make_move(self, move, time):
        word = move[0]
        if word == "begin":
            self.begin_deed(move[1], time)
        elif word == "work":
            deed = self.going[move[1]]
            self.shop.work(deed, move[2])
            deed.works.append(move[2])
        elif word == "end":
            deed = self.going[move[1]]
            self.shop.finish(deed)
            self.end_deed(deed, deed.found, time)
        elif word == "refuse":
            self.end_deed(self.going[move[1]], REFUSED, time)
        else:
            self.shop.make_own(move)

    def begin_deed(self, hand, time):
        deed = Asked(len(self.begun), hand, time, self.plans[hand][self.begun_by[hand]])
        self.begun.append(deed)
        self.begun_by[hand] += 1
        self.going[hand] = deed

    def end_deed(self, deed, answer, time):
        deed.end = time
        deed.answer = answer
        self.going[deed.hand] = None


def make(store, plans, picks):
    promise = promise_of(store)
    making = Making(store, plans)
    for time, pick in enumerate(picks):
        moves = making.moves()
        if len(moves) == 0:
            break
        making.make_move(moves[pick % len(moves)], time)
    history = tuple([(deed.hand, deed.begin, deed.end, deed.call, deed.answer) for deed in making.begun])
    return (history, rows_told(making.shop, history, promise))


def rows_told(shop, history, promise):
    if promise is None:
        return None
    return [row_in(problem, deeds, shop.order_of(name)) for name, problem, deeds in framed(history, promise)]


def row_in(problem, deeds, order):
    """The row of what was done in this order."""
    items = {}
    for x, number in enumerate(deeds):
        word = problem[1][x][0][0]
        items[(number, word if word in ("look", "lay") else None)] = x
    return tuple([items[done] for done in order])
