import unittest

from helper import ANSWERS, ODD_THINGS, told_alike
from storejudge.calls import is_answer
from storejudge.store import FIRST, done, is_stand

STAND = (10, 11, 12, 13, 14, 15, 16, 17)


def at(key, value):
    return STAND[:key] + (value,) + STAND[key + 1:]


class Stands(unittest.TestCase):
    """[4]: stands."""

    def test_first(self):
        self.assertEqual(FIRST, (0,) * 8)
        self.assertIsInstance(FIRST, tuple)
        self.assertIs(is_stand(FIRST), True)

    def test_stands(self):
        for stand in [STAND, (-1,) * 8, (10 ** 39,) * 8]:
            self.assertIs(told_alike(self, is_stand, (stand,)), True)

    def test_things_that_are_none(self):
        for thing in ODD_THINGS + [(0,) * 7, (0,) * 9, [0] * 8, "00000000"]:
            self.assertIs(told_alike(self, is_stand, (thing,)), False, thing)
        for key in range(8):
            for value in (True, False, None, "0", ()):
                self.assertIs(is_stand(at(key, value)), False)


class Done(unittest.TestCase):
    """[5]: what a plain store answers, and the stand behind it."""

    def holds(self, step, answer, after):
        self.assertEqual(told_alike(self, done, (STAND, step)), (answer, after))

    def test_read(self):
        for key in range(8):
            self.holds(("read", key), ("got", 10 + key), STAND)

    def test_write(self):
        for key in range(8):
            self.holds(("write", key, -3), ("done",), at(key, -3))

    def test_add(self):
        self.holds(("add", 0, 5), ("got", 15), at(0, 15))
        self.holds(("add", 7, -20), ("got", -3), at(7, -3))
        self.holds(("add", 3, 0), ("got", 13), STAND)

    def test_swap(self):
        self.holds(("swap", 2, 12, 40), ("yes",), at(2, 40))
        self.holds(("swap", 2, 12, 12), ("yes",), STAND)
        self.holds(("swap", 2, 11, 40), ("no",), STAND)
        self.holds(("swap", 7, 17, 0), ("yes",), at(7, 0))

    def test_span(self):
        self.holds(("span", 0, 8), ("all", STAND), STAND)
        self.holds(("span", 2, 5), ("all", (12, 13, 14)), STAND)
        self.holds(("span", 7, 8), ("all", (17,)), STAND)

    def test_deal_touching_a_key_more_than_once(self):
        self.holds(
            ("deal", (("add", 1, 4), ("swap", 1, 15, 3), ("read", 1), ("write", 1, 8))),
            ("each", (("got", 15), ("yes",), ("got", 3), ("done",))),
            at(1, 8),
        )
        self.holds(
            ("deal", (("read", 1), ("write", 1, 8), ("swap", 1, 11, 3), ("read", 1))),
            ("each", (("got", 11), ("done",), ("no",), ("got", 8))),
            at(1, 8),
        )

    def test_deal_of_several_keys(self):
        self.holds(
            ("deal", (("write", 7, 1), ("read", 0), ("add", 0, 1))),
            ("each", (("done",), ("got", 10), ("got", 11))),
            (11,) + STAND[1:7] + (1,),
        )
        self.holds(("deal", (("write", 4, 1),)), ("each", (("done",),)), at(4, 1))

    def test_look(self):
        for call in [("read", 1), ("write", 1, 3), ("add", 1, 3), ("swap", 1, 11, 3), ("swap", 1, 3, 3), ("span", 1, 4),
                     ("deal", (("add", 1, 1), ("add", 1, 1)))]:
            self.holds(("look", call), done(STAND, call)[0], STAND)

    def test_lay(self):
        self.holds(("lay", ((3, 0),)), ("done",), at(3, 0))
        self.holds(("lay", ((0, 1), (6, -1), (7, 2))), ("done",), (1,) + STAND[1:6] + (-1, 2))

    def test_answers_and_stands_are_what_they_are_called(self):
        for step, _ in ANSWERS:
            told = done(FIRST, step)
            self.assertIsInstance(told, tuple)
            self.assertTrue(is_answer(step, told[0]), step)
            self.assertTrue(is_stand(told[1]), step)


if __name__ == "__main__":
    unittest.main()
