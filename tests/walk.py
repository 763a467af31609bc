"""What stores do, word by word as [41] to [46] tell it: all is told anew from the moves made so far.

Nothing is kept but the moves, each with its time, so that this goes another way than the program does.
"""

from storejudge.calls import keys_of, left_by, may_change, part_on
from storejudge.promises import deeds_of, problems_of
from storejudge.store import FIRST, done


def writes_alone(call):
    return call[0] == "write" or (call[0] == "deal" and all(part[0] == "write" for part in call[1]))


class Walk:
    def __init__(self, store, plans):
        self.store = store
        self.plans = plans
        self.made = []

    # Deeds are told by the time of their begin.

    def begins(self):
        return [time for time, move in enumerate(self.made) if move[0] == "begin"]

    def hand(self, begin):
        return self.made[begin][1]

    def call(self, begin):
        hand = self.hand(begin)
        return self.plans[hand][self.made[:begin].count(("begin", hand))]

    def end(self, begin):
        """The time at which the deed ended or was refused, None where it did not."""
        for time in range(begin, len(self.made)):
            if self.made[time] in [("end", self.hand(begin)), ("refuse", self.hand(begin))]:
                return time
        return None

    def works(self, begin):
        """The times of its works."""
        last = len(self.made) if self.end(begin) is None else self.end(begin)
        return [time for time in range(begin, last) if self.made[time][:2] == ("work", self.hand(begin))]

    def worked_at(self, time):
        """The deed whose work, or end, is the move made at this time."""
        return max(begin for begin in self.begins() if begin < time and self.hand(begin) == self.made[time][1])

    def is_refused(self, begin):
        return self.end(begin) is not None and self.made[self.end(begin)][0] == "refuse"

    def is_ended(self, begin):
        return self.end(begin) is not None and not self.is_refused(begin)

    def open_deeds(self):
        """By hand."""
        return sorted([begin for begin in self.begins() if self.end(begin) is None], key=self.hand)

    # Stands.

    def brought(self, time):
        """The deed that the bring made at this time brought."""
        _, to, giver = self.made[time]
        sent = [begin for begin in self.begins() if self.hand(begin) == giver and may_change(self.call(begin))
                and self.works(begin)]
        return sorted(sent)[self.made[:time].count(("bring", to, giver))]

    def stand(self, time, hand):
        """The stand (of the hand, with copies) just ahead of the move made at this time."""
        stand = FIRST
        for past in range(time):
            word = self.made[past][0]
            if self.store == "copies":
                if word == "work" and self.made[past][1] == hand:
                    stand = done(stand, self.call(self.worked_at(past)))[1]
                if word == "bring" and self.made[past][1] == hand:
                    stand = done(stand, self.call(self.brought(past)))[1]
            elif word == "work" and self.store == "whole":
                stand = done(stand, self.call(self.worked_at(past)))[1]
            elif word == "work" and self.store == "torn":
                stand = done(stand, part_on(self.call(self.worked_at(past)), None, self.made[past][2])[0])[1]
            elif word == "work" and self.store == "loose" and self.works(self.worked_at(past))[1:] == [past]:
                stand = self.with_left(stand, self.worked_at(past))
            elif word == "end" and self.store == "looks":
                stand = self.with_left(stand, self.worked_at(past))
        return stand

    def with_left(self, stand, begin):
        left = left_by(self.call(begin), self.answer(begin))
        return done(stand, ("lay", left))[1] if left else stand

    def log(self, time):
        """The log ahead of this time."""
        works = [past for past in range(time) if self.made[past][0] == "work"]
        return [self.worked_at(past) for past in works if may_change(self.call(self.worked_at(past)))]

    def mark(self, time, hand):
        mark = 0
        for past in range(time):
            if self.made[past] == ("catch", hand):
                mark += 1
            elif self.made[past][:2] == ("work", hand) and may_change(self.call(self.worked_at(past))):
                mark = len(self.log(past)) + 1
        return mark

    # Answers.

    def answer(self, begin):
        """What its works told, as they are all done."""
        call = self.call(begin)
        if self.store == "looks" and writes_alone(call):
            return done(FIRST, call)[0]
        if self.store == "torn":
            return self.torn_answer(begin)
        time = self.works(begin)[0]
        if self.store == "late":
            known = self.log(time)
            if not may_change(call):
                known = known[:self.mark(time, self.hand(begin))]
            stand = FIRST
            for past in known:
                stand = done(stand, self.call(past))[1]
            return done(stand, call)[0]
        return done(self.stand(time, self.hand(begin)), call)[0]

    def torn_answer(self, begin):
        call = self.call(begin)
        told = {}
        for time in self.works(begin):
            key = self.made[time][2]
            told[key] = done(self.stand(time, None), part_on(call, None, key)[0])[0]
        if call[0] == "span":
            return ("all", tuple(told[key][1] for key in keys_of(call)))
        if call[0] != "deal":
            return told[call[1]]
        lots = {key: list(one[1]) if one[0] == "each" else [one] for key, one in told.items()}
        return ("each", tuple(lots[part[1]].pop(0) for part in call[1]))

    # Moves.

    def next_works(self, begin):
        count = len(self.works(begin))
        if self.store == "torn":
            worked = [self.made[time][2] for time in self.works(begin)]
            return [key for key in keys_of(self.call(begin)) if key not in worked]
        if self.store == "looks" and writes_alone(self.call(begin)):
            return []
        return [0] if count < (2 if self.store == "loose" else 1) else []

    def may_end(self, begin):
        if self.next_works(begin):
            return False
        if self.store != "looks" or not self.works(begin):
            return True
        own = {key for key, _ in left_by(self.call(begin), self.answer(begin))}
        for time in range(self.works(begin)[0], len(self.made)):
            if self.made[time][0] == "end":
                other = self.worked_at(time)
                if own & {key for key, _ in left_by(self.call(other), self.answer(other))}:
                    return False
        return True

    def moves(self):
        hands = range(len(self.plans))
        now = len(self.made)
        going = self.open_deeds()
        moves = [("begin", hand) for hand in hands if hand not in [self.hand(begin) for begin in going]
                 and self.made.count(("begin", hand)) < len(self.plans[hand])]
        moves += [("work", self.hand(begin), key) for begin in going for key in self.next_works(begin)]
        moves += [("end", self.hand(begin)) for begin in going if self.may_end(begin)]
        moves += [("refuse", self.hand(begin)) for begin in going if self.store == "looks" or not self.works(begin)]
        if self.store == "late":
            moves += [("catch", hand) for hand in hands if self.mark(now, hand) < len(self.log(now))]
        if self.store == "copies":
            for to in hands:
                for giver in hands:
                    sent = [begin for begin in self.log(now) if self.hand(begin) == giver != to]
                    if len(sent) > self.made.count(("bring", to, giver)):
                        moves.append(("bring", to, giver))
        return moves

    # What is told.

    def history(self):
        return tuple(self.deed(begin) for begin in self.begins())

    def deed(self, begin):
        answer = None
        if self.end(begin) is not None:
            answer = ("refused",) if self.is_refused(begin) else self.answer(begin)
        return (self.hand(begin), begin, self.end(begin), self.call(begin), answer)

    def order(self, name):
        """[46]: for the problem of this name, the deeds done, by their begins; with looks also the word."""
        works = [(time, self.worked_at(time)) for time, move in enumerate(self.made) if move[0] == "work"]
        if self.store == "whole":
            return [begin for _, begin in works]
        if self.store == "torn":
            return [begin for time, begin in works if self.made[time][2] == name]
        if self.store == "late":
            placed = [(place + 1, 0, 0, begin) for place, begin in enumerate(self.log(len(self.made)))]
            placed += [(self.mark(time, self.hand(begin)), 1, time, begin) for time, begin in works
                       if not may_change(self.call(begin)) and self.is_ended(begin)]
            return [begin for _, _, _, begin in sorted(placed)]
        if self.store == "looks":
            told = [(time, begin, "look") for time, begin in works if self.is_ended(begin)]
            told += [(self.end(begin), begin, "lay") for begin in self.begins()
                     if self.is_ended(begin) and left_by(self.call(begin), self.answer(begin))]
            return [(begin, word) for _, begin, word in sorted(told)]
        order = []
        for time, move in enumerate(self.made):
            if move[:2] == ("work", name):
                begin = self.worked_at(time)
                if may_change(self.call(begin)) or self.is_ended(begin):
                    order.append(begin)
            elif move[:2] == ("bring", name):
                order.append(self.brought(time))
        return order + [begin for begin in self.log(len(self.made)) if begin not in order]

    def rows(self, promise):
        if promise is None:
            return None
        history = self.history()
        numbers = {begin: number for number, begin in enumerate(self.begins())}
        rows = []
        for (name, problem), deeds in zip(problems_of(history, promise), deeds_of(history, promise)):
            if self.store == "looks":
                found = {(deed, problem[1][x][0][0]): x for x, deed in enumerate(deeds)}
                rows.append(tuple(found[(numbers[begin], word)] for begin, word in self.order(name)))
            else:
                rows.append(tuple(deeds.index(numbers[begin]) for begin in self.order(name)))
        return rows


def walked(store, promise, plans, picks):
    walk = Walk(store, plans)
    for pick in picks:
        moves = walk.moves()
        if not moves:
            break
        walk.made.append(moves[pick % len(moves)])
    return (walk.history(), walk.rows(promise))


def picked(store, plans, named):
    """The picks that make just these moves."""
    walk = Walk(store, plans)
    picks = []
    for move in named:
        picks.append(walk.moves().index(move))
        walk.made.append(move)
    return picks
