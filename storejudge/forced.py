"""What is forced: all that the steps of rings lead to, or a ring."""

from storejudge.problems import check_problem
from storejudge.rings import Touched


class Web:
    """The steps found so far; with them always stand all that they lead to through one another."""

    def __init__(self, problem):
        self.steps = []
        # Of each step the numbers of those that it leans on: so that a ring can be told without all others.
        self.leaned = []
        self.later = [{} for item in problem[1]]
        self.sooner = [{} for item in problem[1]]
        # Of each standing item the steps that its standing leans on: none for a must.
        self.standing = dict([(x, []) for x, item in enumerate(problem[1]) if item[2] == "must"])
        self.closed = False

    def take_step(self, x, y, why, leaned):
        number = len(self.steps)
        self.steps.append((x, y, why))
        self.leaned.append(leaned)
        self.later[x][y] = number
        self.sooner[y][x] = number
        self.standing.setdefault(x, [number])
        self.standing.setdefault(y, [number])

    def take_through(self, x, z, y):
        self.take_step(x, y, ("through", z), [self.later[x][z], self.later[z][y]])

    def lead(self, x, y, why, leaned):
        """Takes a step, if it tells anything new, and all that it leads to through others."""
        if self.closed or y in self.later[x]:
            return
        self.take_step(x, y, why, leaned)
        if x in self.later[y]:
            self.take_through(x, y, x)
            self.closed = True
            return
        # Whatever was known to stand ahead of y was so of all behind y: only the others need be gone to.
        ahead = [z for z in self.sooner[x] if y not in self.later[z]]
        for z in ahead:
            self.take_through(z, x, y)
        for z in [x] + ahead:
            for late in [late for late in self.later[y] if late not in self.later[z]]:
                self.take_through(z, y, late)

    def needed_steps(self):
        """The steps that the last one leans on, and itself, in their order."""
        last = len(self.steps) - 1
        needed = {last: True}
        for number in range(last, -1, -1):
            if number in needed:
                needed.update([(other, True) for other in self.leaned[number]])
        return [self.steps[number] for number in sorted(needed)]


def forced(problem):
    check_problem(problem)
    return forced_by(problem)


def forced_by(problem):
    web = Web(problem)
    touched = Touched(problem)
    wants = narrow_wants(touched)
    known = -1
    while known < len(web.steps) and not web.closed:
        known = len(web.steps)
        lead_told(web, problem[2])
        lead_apart(web, problem[3])
        for want in wants:
            lead_want(web, touched, want)
    if web.closed:
        return ("ring", web.needed_steps())
    return ("pairs", sorted([(x, y) for x, y, why in web.steps]))


def narrow_wants(touched):
    """The needs, as (item, key, value, others), that at most one other item may leave: others lead to nothing."""
    wants = []
    for x, needed in enumerate(touched.needed):
        for key, value in needed.items():
            others = touched.may_leave(key, value, x)
            if len(others) < 2:
                wants.append((x, key, value, others))
    return wants


def lead_told(web, before):
    for x, y in before:
        if x in web.standing and y in web.standing:
            web.lead(x, y, ("told",), web.standing[x] + web.standing[y])


def lead_apart(web, apart):
    for x, y, z in apart:
        if z in web.later[x]:
            web.lead(y, z, ("apart", x), [web.later[x][z]])
        if y in web.later[z]:
            web.lead(z, x, ("apart", y), [web.later[z][y]])


def lead_want(web, touched, want):
    if want[0] not in web.standing:
        return
    if len(want[3]) == 0:
        lead_first(web, touched, want[0], want[1], want[2])
    else:
        if touched.first[want[1]] != want[2]:
            web.lead(want[3][0], want[0], ("only", want[1]), web.standing[want[0]])
        lead_late(web, touched, want)
        lead_early(web, touched, want)


def lead_first(web, touched, x, key, value):
    for y in list(web.standing):
        if y != x and touched.leaves_other(y, key, value):
            web.lead(x, y, ("first", key), web.standing[x] + web.standing[y])


def lead_late(web, touched, want):
    x = want[0]
    other = want[3][0]
    for y in list(web.later[other]):
        if y != x and touched.leaves_other(y, want[1], want[2]):
            web.lead(x, y, ("late", want[1], other), web.standing[x] + [web.later[other][y]])


def lead_early(web, touched, want):
    needer = want[0]
    y = want[3][0]
    for x in list(web.sooner[needer]):
        if touched.leaves_other(x, want[1], want[2]):
            web.lead(x, y, ("early", want[1], needer), web.standing[needer] + [web.later[x][needer]])
