import itertools
import random
import unittest

from helper import (
    NO_PROBLEMS, ODD_THINGS, all_rows, all_steps, random_problem, random_tight_problem, read, right_by_the_words,
    told_alike, write,
)
from storejudge.errors import NoProblem
from storejudge.rings import ring_fault
from storejudge.store import FIRST


class Rings(unittest.TestCase):
    def told(self, fault, problem, steps):
        self.assertEqual(told_alike(self, ring_fault, (problem, list(steps))), fault, steps)
        self.assertEqual(told_alike(self, ring_fault, (problem, tuple(steps))), fault, steps)

    def right(self, problem, steps):
        self.told(("open",), problem, steps)

    def wrong(self, problem, steps):
        """The last step is the first wrong one."""
        self.told(("step", len(steps) - 1), problem, steps)


class Told(Rings):
    """[22]: told."""

    PROBLEM = (FIRST, (write(1), write(2), write(3, "may"), write(4, "out")), ((0, 1), (1, 2), (1, 3), (0, 1)), ())

    def test_told(self):
        self.right(self.PROBLEM, [(0, 1, ("told",))])
        self.right(self.PROBLEM, [(0, 1, ("told",)), (0, 1, ("told",))])

    def test_not_told(self):
        self.wrong(self.PROBLEM, [(1, 0, ("told",))])
        self.wrong(self.PROBLEM, [(0, 0, ("told",))])
        self.wrong((FIRST, self.PROBLEM[1], (), ()), [(0, 1, ("told",))])

    def test_both_must_stand(self):
        self.wrong(self.PROBLEM, [(1, 2, ("told",))])
        self.wrong(self.PROBLEM, [(1, 3, ("told",))])
        may_ahead = (FIRST, (write(1, "may"), write(2)), ((0, 1),), ())
        self.wrong(may_ahead, [(0, 1, ("told",))])

    def test_a_step_ahead_makes_items_stand(self):
        # The read of 3 can only see what item 2 wrote.
        items = self.PROBLEM[1] + (read(3),)
        problem = (FIRST, items, ((1, 2), (2, 1)), ())
        self.right(problem, [(2, 4, ("only", 0)), (1, 2, ("told",)), (2, 1, ("told",))])
        self.wrong(problem, [(1, 2, ("told",))])


class Through(Rings):
    """[22]: through."""

    PROBLEM = (FIRST, (write(1), write(2), write(3), write(4)), ((0, 1), (1, 2), (2, 3), (2, 0)), ())
    TWO = [(0, 1, ("told",)), (1, 2, ("told",))]

    def test_through(self):
        self.right(self.PROBLEM, self.TWO + [(0, 2, ("through", 1))])
        self.right(self.PROBLEM, self.TWO[::-1] + [(0, 2, ("through", 1))])
        self.right(self.PROBLEM, self.TWO + [(0, 2, ("through", 1)), (2, 3, ("told",)), (0, 3, ("through", 2))])

    def test_a_step_that_is_not_ahead(self):
        self.wrong(self.PROBLEM, [(0, 2, ("through", 1))])
        self.wrong(self.PROBLEM, self.TWO[:1] + [(0, 2, ("through", 1))])
        self.wrong(self.PROBLEM, self.TWO[1:] + [(0, 2, ("through", 1))])
        self.told(("step", 1), self.PROBLEM, self.TWO[:1] + [(0, 2, ("through", 1))] + self.TWO[1:])

    def test_another_item(self):
        for z in (0, 2, 3):
            self.wrong(self.PROBLEM, self.TWO + [(0, 2, ("through", z))])
        self.wrong(self.PROBLEM, self.TWO + [(2, 0, ("through", 1))])
        self.wrong(self.PROBLEM, self.TWO + [(0, 3, ("through", 1))])

    def test_x_and_y_alike_close_a_ring(self):
        ring = self.TWO + [(0, 2, ("through", 1)), (2, 0, ("told",)), (0, 0, ("through", 2))]
        self.told(None, self.PROBLEM, ring)
        self.right(self.PROBLEM, ring[:-1])
        self.wrong(self.PROBLEM, ring[:-1] + [(0, 0, ("through", 1))])
        self.wrong(self.PROBLEM, ring[:-1] + [(1, 1, ("through", 0))])
        self.wrong(self.PROBLEM, ring[:3] + [(0, 0, ("through", 2))])

    def test_steps_behind_a_ring(self):
        ring = self.TWO + [(2, 0, ("told",)), (1, 0, ("through", 2)), (1, 1, ("through", 0))]
        self.told(None, self.PROBLEM, ring)
        self.right(self.PROBLEM, ring + [(1, 2, ("told",))])
        self.told(None, self.PROBLEM, ring + [(1, 1, ("through", 1))])


class Only(Rings):
    """[22]: only."""

    def problem(self, *more, first=FIRST):
        return (first, (read(5), write(5), write(6)) + more, (), ())

    def test_only(self):
        self.right(self.problem(), [(1, 0, ("only", 0))])

    def test_another_value_or_item(self):
        self.wrong(self.problem(), [(2, 0, ("only", 0))])
        self.wrong(self.problem(), [(0, 1, ("only", 0))])
        self.wrong(self.problem(), [(0, 0, ("only", 0))])
        self.wrong((FIRST, (read(4), write(5)), (), ()), [(1, 0, ("only", 0))])
        self.wrong((FIRST, (read(5), write(5, key=1)), (), ()), [(1, 0, ("only", 0))])

    def test_another_key(self):
        for key in range(1, 8):
            self.wrong(self.problem(), [(1, 0, ("only", key))])
        span = (("span", 2, 4), ("all", (5, 6)), "must")
        items = (span, write(5, key=2), write(6, key=3))
        self.right((FIRST, items, (), ()), [(1, 0, ("only", 2)), (2, 0, ("only", 3))])
        self.wrong((FIRST, items, (), ()), [(1, 0, ("only", 3))])
        self.wrong((FIRST, items, (), ()), [(2, 0, ("only", 2))])

    def test_first_has_the_value_already(self):
        self.wrong(self.problem(first=(5,) + FIRST[1:]), [(1, 0, ("only", 0))])
        self.right(self.problem(first=(6,) + FIRST[1:]), [(1, 0, ("only", 0))])
        self.right(self.problem(first=(0,) + (5,) * 7), [(1, 0, ("only", 0))])

    def test_one_more_that_may_leave_the_value(self):
        for more in [write(5), write(5, "may"), (("add", 0, 1), None, "may"), (("swap", 0, 1, 2), None, "must"),
                     (("add", 0, 1), ("got", 5), "must"), (("swap", 0, 1, 5), ("yes",), "must"),
                     (("lay", ((0, 5), (1, 1))), ("done",), "must")]:
            self.wrong(self.problem(more), [(1, 0, ("only", 0))])
            self.wrong(self.problem(more), [(3, 0, ("only", 0))])

    def test_what_does_not_leave_the_value(self):
        for more in [write(5, "out"), (("add", 0, 1), None, "out"), (("swap", 0, 1, 5), ("no",), "must"),
                     (("add", 0, 1), ("got", 4), "must"), read(5), (("look", ("write", 0, 5)), ("done",), "must"),
                     (("write", 0, 5), ("refused",), "may"), write(5, key=1)]:
            self.right(self.problem(more), [(1, 0, ("only", 0))])

    def test_what_y_leaves_itself_does_not_count(self):
        swap = (("swap", 0, 5, 5), ("yes",), "must")
        self.right((FIRST, (swap, write(5)), (), ()), [(1, 0, ("only", 0))])

    def test_y_must_stand(self):
        for word in ("may", "out"):
            self.wrong((FIRST, (read(5, word), write(5)), (), ()), [(1, 0, ("only", 0))])

    def test_x_need_not_stand_but_is_not_out(self):
        self.right((FIRST, (read(5), write(5, "may")), (), ()), [(1, 0, ("only", 0))])
        self.wrong((FIRST, (read(5), write(5, "out")), (), ()), [(1, 0, ("only", 0))])

    def test_without_a_need(self):
        self.wrong((FIRST, ((("read", 0), None, "must"), write(5)), (), ()), [(1, 0, ("only", 0))])
        self.wrong((FIRST, (write(7), write(5)), (), ()), [(1, 0, ("only", 0))])

    def test_an_item_that_may_leave_anything(self):
        add = (("add", 0, 1), None, "may")
        self.right((FIRST, (read(5), add), (), ()), [(1, 0, ("only", 0))])


class First(Rings):
    """[22]: first."""

    def problem(self, *more, first=FIRST):
        return (first, (read(0), write(5), write(6, "may")) + more, (), ())

    def test_first(self):
        self.right(self.problem(), [(0, 1, ("first", 0))])
        # Whatever the key has at first: where it is another value there is no row at all.
        self.right(self.problem(first=(7,) * 8), [(0, 1, ("first", 0))])

    def test_both_must_stand(self):
        self.wrong(self.problem(), [(0, 2, ("first", 0))])
        seen = self.problem(read(6))
        self.right(seen, [(2, 3, ("only", 0)), (0, 2, ("first", 0))])
        for word in ("may", "out"):
            self.wrong((FIRST, (read(0, word), write(5)), (), ()), [(0, 1, ("first", 0))])
            self.wrong((FIRST, (read(0), write(5, word)), (), ()), [(0, 1, ("first", 0))])

    def test_one_that_may_leave_the_value(self):
        for more in [write(0), write(0, "may"), (("add", 0, 1), None, "may"), (("swap", 0, 1, 0), ("yes",), "may")]:
            self.wrong(self.problem(more), [(0, 1, ("first", 0))])
        for more in [write(0, "out"), (("swap", 0, 1, 0), ("no",), "must"), write(0, key=1)]:
            self.right(self.problem(more), [(0, 1, ("first", 0))])

    def test_y_must_surely_leave_another_value(self):
        for other in [(("add", 1, 1), None, "must"), read(0), (("swap", 0, 1, 2), ("no",), "must"), write(5, key=1)]:
            self.wrong(self.problem(other), [(0, 3, ("first", 0))])
        any_left = (("add", 0, 1), None, "must")
        self.wrong((FIRST, (read(0), any_left), (), ()), [(0, 1, ("first", 0))])
        self.wrong((FIRST, (read(0), write(0)), (), ()), [(0, 1, ("first", 0))])

    def test_another_value_or_key(self):
        self.wrong(self.problem(), [(1, 0, ("first", 0))])
        self.wrong(self.problem(), [(0, 0, ("first", 0))])
        self.wrong(self.problem(), [(0, 1, ("first", 1))])
        self.wrong((FIRST, (read(0, key=1), write(5)), (), ()), [(0, 1, ("first", 0))])
        self.wrong((FIRST, (read(0, key=1), write(5)), (), ()), [(0, 1, ("first", 1))])

    def test_x_and_y_alike(self):
        # The add needs 0 and leaves 1: it would go ahead of itself.
        add = (("add", 0, 1), ("got", 1), "must")
        self.wrong((FIRST, (add,), (), ()), [(0, 0, ("first", 0))])
        # What x leaves itself does not count.
        swap = (("swap", 0, 0, 0), ("yes",), "must")
        self.right((FIRST, (swap, write(5)), (), ()), [(0, 1, ("first", 0))])


class Late(Rings):
    """[22]: late: x reads what w wrote, so it stands ahead of y, which stands behind w."""

    AHEAD = [(1, 2, ("told",))]

    def problem(self, *more, first=FIRST):
        return (first, (read(5), write(5), write(6)) + more, ((1, 2),), ())

    def test_late(self):
        self.right(self.problem(), self.AHEAD + [(0, 2, ("late", 0, 1))])
        self.right(self.problem(first=(5,) * 8), self.AHEAD + [(0, 2, ("late", 0, 1))])

    def test_a_step_that_is_not_ahead(self):
        self.wrong(self.problem(), [(0, 2, ("late", 0, 1))])
        self.told(("step", 0), self.problem(), [(0, 2, ("late", 0, 1))] + self.AHEAD)
        turned = (FIRST, self.problem()[1], ((2, 1),), ())
        self.wrong(turned, [(2, 1, ("told",)), (0, 2, ("late", 0, 1))])

    def test_one_more_that_may_leave_the_value(self):
        for more in [write(5), write(5, "may"), (("add", 0, 1), None, "must")]:
            self.wrong(self.problem(more), self.AHEAD + [(0, 2, ("late", 0, 1))])
            self.wrong(self.problem(more), self.AHEAD + [(0, 2, ("late", 0, 3))])
        self.right(self.problem(write(5, "out")), self.AHEAD + [(0, 2, ("late", 0, 1))])

    def test_another_item(self):
        for w in (0, 2):
            self.wrong(self.problem(), self.AHEAD + [(0, 2, ("late", 0, w))])
        self.wrong(self.problem(), self.AHEAD + [(2, 0, ("late", 0, 1))])
        self.wrong(self.problem(), self.AHEAD + [(1, 2, ("late", 0, 1))])

    def test_another_key_or_value(self):
        for key in range(1, 8):
            self.wrong(self.problem(), self.AHEAD + [(0, 2, ("late", key, 1))])
        self.wrong((FIRST, (read(4), write(5), write(6)), ((1, 2),), ()), self.AHEAD + [(0, 2, ("late", 0, 1))])

    def test_x_must_stand(self):
        for word in ("may", "out"):
            items = (read(5, word), write(5), write(6))
            self.wrong((FIRST, items, ((1, 2),), ()), self.AHEAD + [(0, 2, ("late", 0, 1))])

    def test_y_must_surely_leave_another_value(self):
        for other in [read(5), write(6, key=1), (("swap", 0, 5, 6), ("no",), "must")]:
            self.wrong((FIRST, (read(5), write(5), other), ((1, 2),), ()), self.AHEAD + [(0, 2, ("late", 0, 1))])

    def test_x_and_y_alike(self):
        # x needs 5 and leaves 6, and stands behind w: it would go ahead of itself.
        add = (("add", 0, 1), ("got", 6), "must")
        problem = (FIRST, (add, write(5)), (), ())
        self.wrong(problem, [(1, 0, ("only", 0)), (0, 0, ("late", 0, 1))])


class Early(Rings):
    """[22]: early: r reads what y wrote, so x, which stands ahead of r, stands ahead of y."""

    AHEAD = [(2, 0, ("told",))]

    def problem(self, *more, first=FIRST):
        return (first, (read(5), write(5), write(6)) + more, ((2, 0),), ())

    def test_early(self):
        self.right(self.problem(), self.AHEAD + [(2, 1, ("early", 0, 0))])
        self.right(self.problem(first=(5,) * 8), self.AHEAD + [(2, 1, ("early", 0, 0))])
        # y need not have stood ahead of that.
        may = (FIRST, (read(5), write(5, "may"), write(6)), ((2, 0), (1, 2)), ())
        self.wrong(may, [(1, 2, ("told",))])
        self.right(may, self.AHEAD + [(2, 1, ("early", 0, 0)), (1, 2, ("told",))])

    def test_a_step_that_is_not_ahead(self):
        self.wrong(self.problem(), [(2, 1, ("early", 0, 0))])
        turned = (FIRST, self.problem()[1], ((0, 2),), ())
        self.wrong(turned, [(0, 2, ("told",)), (2, 1, ("early", 0, 0))])

    def test_one_more_that_may_leave_the_value(self):
        for more in [write(5), write(5, "may"), (("add", 0, 1), None, "must")]:
            self.wrong(self.problem(more), self.AHEAD + [(2, 1, ("early", 0, 0))])
            self.wrong(self.problem(more), self.AHEAD + [(2, 3, ("early", 0, 0))])
        self.right(self.problem(write(5, "out")), self.AHEAD + [(2, 1, ("early", 0, 0))])

    def test_another_item(self):
        for r in (1, 2):
            self.wrong(self.problem(), self.AHEAD + [(2, 1, ("early", 0, r))])
        self.wrong(self.problem(), self.AHEAD + [(1, 2, ("early", 0, 0))])
        self.wrong(self.problem(), self.AHEAD + [(2, 0, ("early", 0, 0))])
        self.wrong(self.problem(), self.AHEAD + [(1, 1, ("early", 0, 0))])

    def test_another_key_or_value(self):
        for key in range(1, 8):
            self.wrong(self.problem(), self.AHEAD + [(2, 1, ("early", key, 0))])
        self.wrong((FIRST, (read(4), write(5), write(6)), ((2, 0),), ()), self.AHEAD + [(2, 1, ("early", 0, 0))])

    def test_y_that_is_out(self):
        items = (read(5), write(5, "out"), write(6))
        self.wrong((FIRST, items, ((2, 0),), ()), self.AHEAD + [(2, 1, ("early", 0, 0))])

    def test_x_must_surely_leave_another_value(self):
        for other in [read(5), write(6, key=1), (("swap", 0, 5, 6), ("no",), "must")]:
            self.wrong((FIRST, (read(5), write(5), other), ((2, 0),), ()), self.AHEAD + [(2, 1, ("early", 0, 0))])


class Apart(Rings):
    """[22]: apart, both forms."""

    ITEMS = (write(1), write(2), write(3), write(4))

    def test_behind_both(self):
        # z = 0, x = 1, y = 2: 2 is behind 0, and not between 0 and 1.
        problem = (FIRST, self.ITEMS, ((0, 2),), ((0, 1, 2),))
        self.right(problem, [(0, 2, ("told",)), (1, 2, ("apart", 0))])
        self.wrong(problem, [(1, 2, ("apart", 0))])
        self.wrong(problem, [(0, 2, ("told",)), (2, 1, ("apart", 0))])
        for z in (1, 2, 3):
            self.wrong(problem, [(0, 2, ("told",)), (1, 2, ("apart", z))])

    def test_ahead_of_both(self):
        # y = 0, z = 1, x = 2: 2 is ahead of 1, and not between 0 and 1.
        problem = (FIRST, self.ITEMS, ((2, 1),), ((0, 1, 2),))
        self.right(problem, [(2, 1, ("told",)), (2, 0, ("apart", 1))])
        self.wrong(problem, [(2, 0, ("apart", 1))])
        self.wrong(problem, [(2, 1, ("told",)), (0, 2, ("apart", 1))])
        for z in (0, 2, 3):
            self.wrong(problem, [(2, 1, ("told",)), (2, 0, ("apart", z))])

    def test_a_triple_that_is_not_there(self):
        for triple in itertools.permutations(range(3)):
            behind = (FIRST, self.ITEMS, ((0, 2),), (triple,))
            steps = [(0, 2, ("told",)), (1, 2, ("apart", 0))]
            self.told(("open",) if triple == (0, 1, 2) else ("step", 1), behind, steps)
            ahead = (FIRST, self.ITEMS, ((2, 1),), (triple,))
            steps = [(2, 1, ("told",)), (2, 0, ("apart", 1))]
            self.told(("open",) if triple == (0, 1, 2) else ("step", 1), ahead, steps)
        self.wrong((FIRST, self.ITEMS, ((0, 2),), ()), [(0, 2, ("told",)), (1, 2, ("apart", 0))])

    def test_the_other_step(self):
        problem = (FIRST, self.ITEMS, ((2, 0), (1, 2), (0, 1), (1, 0)), ((0, 1, 2),))
        for pair in problem[2]:
            self.wrong(problem, [pair + (("told",),), (1, 2, ("apart", 0))])
            self.wrong(problem, [pair + (("told",),), (2, 0, ("apart", 1))])


class Fault(Rings):
    """[23]: the fault of steps."""

    PROBLEM = (FIRST, (write(1), write(2), read(7, "out")), ((0, 1), (1, 0)), ())
    RING = [(0, 1, ("told",)), (1, 0, ("told",)), (0, 0, ("through", 1))]

    NO_STEPS = ODD_THINGS + [
        (0, 1), (0, 1, ("told",), 0), [0, 1, ("told",)], (0, 1, ["told"]), (0, 1, "told"), (0, 1, ()), (0, 1, None),
        (0, 3, ("told",)), (3, 0, ("told",)), (-1, 0, ("told",)), (0, -1, ("told",)), (True, 0, ("told",)),
        (0, False, ("told",)), ("0", 1, ("told",)), (None, 1, ("told",)), ((0,), 1, ("told",)),
        (0, 1, ("Told",)), (0, 1, ("tell",)), (0, 1, (b"told",)), (0, 1, ("told", 0)), (0, 1, ("",)), (0, 1, (0,)),
        (0, 1, ("through",)), (0, 1, ("through", 3)), (0, 1, ("through", -1)), (0, 1, ("through", True)),
        (0, 1, ("through", 0, 0)), (0, 1, ("through", None)), (0, 1, ("through", [])),
        (0, 1, ("only",)), (0, 1, ("only", 8)), (0, 1, ("only", -1)), (0, 1, ("only", False)), (0, 1, ("only", 0, 0)),
        (0, 1, ("first",)), (0, 1, ("first", 8)), (0, 1, ("first", "0")), (0, 1, ("first", 0, 0)),
        (0, 1, ("late", 0)), (0, 1, ("late", 8, 0)), (0, 1, ("late", 0, 3)), (0, 1, ("late", 0, None)),
        (0, 1, ("late", 0, 0, 0)), (0, 1, ("late", -1, 0)), (0, 1, ("late", 0, -1)),
        (0, 1, ("early", 0)), (0, 1, ("early", 8, 0)), (0, 1, ("early", 0, 3)), (0, 1, ("early", [], 0)),
        (0, 1, ("early", 0, 0, 0)), (0, 1, ("early", -1, 0)), (0, 1, ("early", 0, -1)),
        (0, 1, ("apart",)), (0, 1, ("apart", 3)), (0, 1, ("apart", -1)), (0, 1, ("apart", 0, 0)),
        (0, 1, ("apart", (0,))),
    ]

    def test_none(self):
        self.told(None, self.PROBLEM, self.RING)

    def test_no_list_or_tuple(self):
        for thing in ODD_THINGS + ["ring", {0: (0, 1, ("told",))}, {(0, 1, ("told",))}]:
            if not isinstance(thing, (list, tuple)):
                self.assertEqual(told_alike(self, ring_fault, (self.PROBLEM, thing)), ("form", 0), thing)

    def test_form(self):
        for thing in self.NO_STEPS:
            self.told(("form", 0), self.PROBLEM, [thing])
            self.told(("form", 3), self.PROBLEM, self.RING + [thing])
            self.told(("form", 1), self.PROBLEM, self.RING[:1] + [thing, thing])

    def test_each_reason_by_its_form(self):
        for step in all_steps(3, range(8)):
            self.assertNotEqual(ring_fault(self.PROBLEM, [step])[0], "form", step)

    def test_all_forms_go_ahead_of_all_steps(self):
        wrong = (1, 0, ("only", 0))
        self.told(("form", 2), self.PROBLEM, [wrong, wrong, None])
        self.told(("form", 4), self.PROBLEM, [wrong] + self.RING + [()])

    def test_the_first_wrong_step(self):
        wrong = (1, 0, ("only", 0))
        self.told(("step", 0), self.PROBLEM, [wrong, wrong])
        self.told(("step", 1), self.PROBLEM, self.RING[:1] + [wrong] + self.RING[1:])
        self.told(("step", 3), self.PROBLEM, self.RING + [wrong])
        self.told(("step", 0), self.PROBLEM, self.RING[::-1])
        self.told(("step", 0), self.PROBLEM, [(0, 0, ("told",))])

    def test_open(self):
        self.told(("open",), self.PROBLEM, [])
        self.told(("open",), self.PROBLEM, self.RING[:2])
        self.told(("open",), self.PROBLEM, self.RING + self.RING[:1])
        self.told(("open",), (FIRST, (), (), ()), [])

    def test_many_steps(self):
        items = tuple(write(k) for k in range(120))
        before = tuple((k, (k + 1) % 120) for k in range(120))
        steps = [pair + (("told",),) for pair in before]
        steps += [(0, k + 1, ("through", k)) for k in range(1, 119)] + [(0, 0, ("through", 119))]
        self.told(None, (FIRST, items, before, ()), steps)
        many = steps[:1] * (5000 - len(steps)) + steps
        self.told(None, (FIRST, items, before, ()), many)
        self.told(("open",), (FIRST, items, before, ()), many[:-1])

    def test_no_problem(self):
        for thing in NO_PROBLEMS:
            for steps in [[], (), None, [(0, 1, ("told",))], "x"]:
                with self.assertRaises(NoProblem):
                    ring_fault(thing, steps)


class ByTheWords(Rings):
    """[22], [23]: all steps of small problems, held against the document's words and against all rows."""

    def test_small_problems(self):
        chance = random.Random(22)
        right = dict.fromkeys(["told", "through", "only", "first", "late", "early", "apart"], 0)
        rings = 0
        for number in range(160):
            problem = random_problem(chance) if number % 10 == 0 else random_tight_problem(chance)
            rows = all_rows(problem)
            taken = []
            steps = all_steps(len(problem[1]), range(2))
            chance.shuffle(steps)
            # Twice, so that what was wrong for want of a step ahead is come to again.
            for step in steps + steps:
                good = right_by_the_words(problem, taken, step)
                fault = ring_fault(problem, taken + [step])
                if not good:
                    self.assertEqual(fault, ("step", len(taken)), (problem, taken, step))
                elif step[0] == step[1]:
                    self.assertIsNone(fault, (problem, taken, step))
                    self.assertEqual(rows, [])
                    rings += 1
                else:
                    self.assertEqual(fault, ("open",), (problem, taken, step))
                    right[step[2][0]] += 1
                    self.holds_in_all(rows, step)
                if good and step[:2] not in [one[:2] for one in taken]:
                    taken.append(step)
        self.assertGreater(min(right.values()), 4, right)
        self.assertGreater(rings, 10)

    def holds_in_all(self, rows, step):
        for row in rows:
            self.assertLess(row.index(step[0]), row.index(step[1]))


if __name__ == "__main__":
    unittest.main()
