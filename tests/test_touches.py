import itertools
import unittest

from helper import told_alike
from storejudge.calls import is_answer
from storejudge.store import done
from storejudge.touches import leaves, needs

NONE = ("none",)
ANY = ("any",)


class Touches(unittest.TestCase):
    def told(self, step, answer, key, needed, left):
        for word in ("must", "may", "out"):
            item = (step, answer, word)
            if answer is not None:
                self.assertTrue(is_answer(step, answer))
            self.assertEqual(told_alike(self, needs, (item, key)), needed, (item, key))
            self.assertEqual(told_alike(self, leaves, (item, key)), left, (item, key))


class Steps(Touches):
    """[16], [17]: all steps but deals."""

    def test_read(self):
        self.told(("read", 3), ("got", 7), 3, 7, NONE)
        self.told(("read", 3), ("got", 0), 3, 0, NONE)
        self.told(("read", 3), None, 3, None, NONE)

    def test_write(self):
        self.told(("write", 3, 7), ("done",), 3, None, ("is", 7))
        self.told(("write", 3, 0), None, 3, None, ("is", 0))

    def test_add(self):
        self.told(("add", 3, 2), ("got", 7), 3, 5, ("is", 7))
        self.told(("add", 3, 2), ("got", 0), 3, -2, ("is", 0))
        self.told(("add", 3, 7), ("got", 7), 3, 0, ("is", 7))
        self.told(("add", 3, 2), None, 3, None, ANY)

    def test_swap(self):
        self.told(("swap", 3, 0, 7), ("yes",), 3, 0, ("is", 7))
        self.told(("swap", 3, 7, 0), ("yes",), 3, 7, ("is", 0))
        self.told(("swap", 3, 4, 4), ("yes",), 3, 4, ("is", 4))
        self.told(("swap", 3, 4, 7), ("no",), 3, None, NONE)
        self.told(("swap", 3, 4, 7), None, 3, None, ANY)

    def test_span(self):
        for key, value in [(2, 5), (3, 0), (4, 7)]:
            self.told(("span", 2, 5), ("all", (5, 0, 7)), key, value, NONE)
            self.told(("span", 2, 5), None, key, None, NONE)
        for key in (0, 1, 5, 7):
            self.told(("span", 2, 5), ("all", (5, 0, 7)), key, None, NONE)

    def test_look(self):
        for call, answer, needed in [
            (("read", 3), ("got", 7), 7), (("write", 3, 7), ("done",), None), (("add", 3, 2), ("got", 7), 5),
            (("swap", 3, 4, 7), ("yes",), 4), (("swap", 3, 4, 7), ("no",), None), (("span", 2, 4), ("all", (1, 6)), 6),
            (("deal", (("add", 3, 2), ("read", 3))), ("each", (("got", 7), ("got", 7))), 5),
            (("deal", (("write", 3, 2), ("read", 3))), ("each", (("done",), ("got", 2))), None),
        ]:
            self.told(("look", call), answer, 3, needed, NONE)
            self.told(("look", call), None, 3, None, NONE)
            self.told(("look", call), answer, 5, None, NONE)

    def test_lay(self):
        for answer in (("done",), None):
            self.told(("lay", ((0, 4), (3, 0), (7, -1))), answer, 0, None, ("is", 4))
            self.told(("lay", ((0, 4), (3, 0), (7, -1))), answer, 3, None, ("is", 0))
            self.told(("lay", ((0, 4), (3, 0), (7, -1))), answer, 7, None, ("is", -1))
            self.told(("lay", ((0, 4), (3, 0), (7, -1))), answer, 4, None, NONE)

    def test_another_key(self):
        for call, answer in [(("read", 3), ("got", 7)), (("write", 3, 7), ("done",)), (("add", 3, 2), ("got", 7)),
                             (("swap", 3, 4, 7), ("yes",)), (("deal", (("write", 3, 7),)), ("each", (("done",),)))]:
            for key in (0, 2, 4, 7):
                self.told(call, answer, key, None, NONE)
                self.told(call, None, key, None, NONE)

    def test_refused(self):
        for call in [("read", 3), ("write", 3, 7), ("add", 3, 2), ("swap", 3, 4, 7), ("span", 2, 5),
                     ("deal", (("write", 3, 7), ("read", 3)))]:
            self.told(call, ("refused",), 3, None, NONE)
            self.told(call, ("refused",), 0, None, NONE)


class Deals(Touches):
    """[18]: deals."""

    def answered(self, parts, answers, needed, left):
        self.told(("deal", parts), ("each", answers), 3, needed, left)
        self.told(("look", ("deal", parts)), ("each", answers), 3, needed, NONE)

    def test_needs_of_the_first_part_that_tells(self):
        self.answered((("swap", 3, 1, 2), ("read", 3)), (("no",), ("got", 7)), 7, NONE)
        self.answered((("swap", 3, 1, 2), ("add", 3, 2)), (("no",), ("got", 7)), 5, ("is", 7))
        self.answered((("swap", 3, 1, 2), ("swap", 3, 4, 2)), (("no",), ("yes",)), 4, ("is", 2))
        self.answered((("read", 3), ("write", 3, 2)), (("got", 7),  ("done",)), 7, ("is", 2))
        self.answered((("read", 3), ("read", 3)), (("got", 7), ("got", 8)), 7, NONE)
        self.answered((("read", 0), ("read", 3)), (("got", 1), ("got", 8)), 8, NONE)
        self.answered((("swap", 3, 1, 2), ("swap", 3, 2, 1)), (("no",), ("no",)), None, NONE)

    def test_needs_nothing_behind_a_write(self):
        self.answered((("write", 3, 7), ("read", 3)), (("done",), ("got", 7)), None, ("is", 7))
        self.answered((("write", 3, 7), ("add", 3, 1)), (("done",), ("got", 8)), None, ("is", 8))
        self.answered((("write", 3, 7), ("swap", 3, 7, 0)), (("done",), ("yes",)), None, ("is", 0))
        self.answered((("swap", 3, 1, 2), ("write", 3, 7), ("read", 3)), (("no",), ("done",), ("got", 7)), None, ("is", 7))

    def test_a_write_of_another_key_changes_nothing_here(self):
        self.answered((("write", 0, 7), ("read", 3)), (("done",), ("got", 4)), 4, NONE)

    def test_leaves_what_is_known_last(self):
        self.answered((("write", 3, 7), ("swap", 3, 1, 2)), (("done",), ("no",)), None, ("is", 7))
        self.answered((("add", 3, 7), ("write", 3, 0)), (("got", 9), ("done",)), 2, ("is", 0))
        self.answered((("write", 3, 1), ("read", 0)), (("done",), ("got", 9)), None, ("is", 1))
        self.answered((("write", 3, 1), ("read", 3)), (("done",), ("got", 9)), None, ("is", 9))

    def unanswered(self, parts, left):
        self.told(("deal", parts), None, 3, None, left)
        self.told(("look", ("deal", parts)), None, 3, None, NONE)

    def test_without_answers(self):
        self.unanswered((("read", 3), ("read", 3)), NONE)
        self.unanswered((("read", 3), ("write", 0, 1)), NONE)
        self.unanswered((("write", 3, 1), ("read", 3)), ("is", 1))
        self.unanswered((("write", 3, 1), ("write", 3, 0)), ("is", 0))
        self.unanswered((("add", 3, 1), ("read", 3)), ANY)
        self.unanswered((("write", 3, 1), ("add", 3, 2)), ("is", 3))
        self.unanswered((("add", 3, 1), ("write", 3, 2)), ("is", 2))
        self.unanswered((("write", 3, 1), ("swap", 3, 1, 5), ("add", 3, 1)), ("is", 6))
        self.unanswered((("write", 3, 0), ("swap", 3, 0, 5)), ("is", 5))
        self.unanswered((("write", 3, 1), ("swap", 3, 2, 5)), ("is", 1))
        self.unanswered((("swap", 3, 2, 5), ("read", 3)), ANY)
        self.unanswered((("swap", 3, 2, 5), ("swap", 3, 5, 6)), ANY)
        self.unanswered((("swap", 3, 2, 5), ("write", 3, 4), ("swap", 3, 4, 1)), ("is", 1))
        self.unanswered((("add", 3, 1), ("add", 3, 1)), ANY)


class Held(unittest.TestCase):
    """[19]: where an item is answered so, the key has what it needs, and then what it leaves."""

    def test_done_by_the_store(self):
        singles = [("read", 0), ("write", 0, 1), ("add", 0, 1), ("swap", 0, 0, 2), ("swap", 0, 1, 0), ("write", 1, 1),
                   ("swap", 1, 1, 2)]
        deals = [("deal", parts) for parts in itertools.product(singles, repeat=3)]
        steps = singles + deals + [("span", 0, 2), ("lay", ((0, 1),)), ("lay", ((0, 2), (1, 2)))]
        steps += [("look", call) for call in singles + deals[::5]]
        for step, x, y in itertools.product(steps, range(3), range(2)):
            stand = (x, y) + (0,) * 6
            answer, after = done(stand, step)
            for told, key in itertools.product((answer, None), range(3)):
                item = (step, told, "must")
                needed = needs(item, key)
                left = leaves(item, key)
                self.assertIn(needed, (None, stand[key]), (item, key))
                if left == NONE:
                    self.assertEqual(after[key], stand[key], (item, key))
                elif left != ANY:
                    self.assertEqual(left, ("is", after[key]), (item, key))


if __name__ == "__main__":
    unittest.main()
