import unittest

from helper import ODD_THINGS, told_alike
from storejudge.errors import JudgeError, NoHistory
from storejudge.histories import hands_in, look_over, of_hand, quiet_times, really_ahead


def deed(hand, begin, end):
    """A read that got 0, or that never ended."""
    return (hand, begin, end, ("read", 0), None if end is None else ("got", 0))


def refused(hand, begin, end):
    return (hand, begin, end, ("write", 0, 1), ("refused",))


class LookedOver(unittest.TestCase):
    """[8], [9]: which things are histories, and where others fail."""

    def right(self, history):
        self.assertIsNone(told_alike(self, look_over, (history,)), history)

    def wrong(self, at, history):
        for _ in range(2):
            with self.assertRaises(NoHistory) as caught:
                look_over(history)
            self.assertEqual(caught.exception.at, at, history)
            self.assertIsInstance(caught.exception, JudgeError)

    def test_histories(self):
        self.right(())
        self.right((deed(0, 0, 1),))
        self.right((deed(5, 0, None),))
        self.right((deed(0, 10 ** 39, 10 ** 39 + 1),))
        self.right((deed(0, 0, None), deed(1, 1, None), deed(2, 2, None)))
        self.right((deed(0, 5, 9), deed(1, 2, 7), deed(0, 0, 3), refused(2, 1, 10), deed(0, 11, None)))

    def test_up_to_sixty(self):
        sixty = tuple(deed(number % 6, 2 * number, 2 * number + 1) for number in range(60))
        self.right(sixty)
        self.right(sixty[::-1])
        self.wrong(-1, sixty + (deed(0, 200, 201),))
        self.wrong(-1, sixty + (None,))
        self.wrong(-1, (None,) * 61)

    def test_no_tuple(self):
        for thing in [None, 3, True, "", "deeds", [], [deed(0, 0, 1)], {}, set()]:
            self.wrong(-1, thing)

    def test_each_call_with_its_answer(self):
        for call, answer in [
            (("read", 0), ("got", 4)), (("write", 0, 1), ("done",)), (("add", 0, 1), ("got", 1)),
            (("swap", 0, 1, 2), ("no",)), (("span", 0, 2), ("all", (0, 0))),
            (("deal", (("read", 0), ("write", 1, 1))), ("each", (("got", 0), ("done",)))),
        ]:
            self.right(((0, 0, 1, call, answer),))
            self.right(((0, 0, 1, call, ("refused",)),))
            self.right(((0, 0, None, call, None),))
            self.wrong(0, ((0, 0, 1, call, None),))
            self.wrong(0, ((0, 0, None, call, answer),))
            self.wrong(0, ((0, 0, None, call, ("refused",)),))
            self.wrong(0, ((0, 0, 1, call, ("other",)),))

    def test_no_deeds(self):
        right = deed(0, 0, 1)
        self.wrong(1, (deed(1, 2, 3), right[:-1]))
        self.wrong(1, (deed(1, 2, 3), right + (1,)))
        self.wrong(1, (deed(1, 2, 3), list(right)))
        for thing in ODD_THINGS:
            self.wrong(0, (thing,))
            self.wrong(2, (deed(1, 2, 3), deed(1, 4, 5), thing))

    def test_hands_and_times(self):
        for hand in range(6):
            self.right((deed(hand, 0, 1),))
        for hand in (-1, 6, True, False, None, "0", ()):
            self.wrong(0, (deed(hand, 0, 1),))
        for begin, end in [(-1, 1), (1, 1), (2, 1), (0, -1), (False, 1), (0, True), ("0", 1), (None, 1), (None, None),
                           (0, "1"), (True, None), (-1, None)]:
            self.wrong(0, (deed(0, begin, end),))

    def test_looks_and_lays_are_no_calls(self):
        self.wrong(0, ((0, 0, 1, ("look", ("read", 0)), ("got", 0)),))
        self.wrong(0, ((0, 0, 1, ("lay", ((0, 1),)), ("done",)),))

    def test_times_alike(self):
        self.wrong(1, (deed(0, 0, 5), deed(1, 0, 6)))
        self.wrong(1, (deed(0, 0, 5), deed(1, 1, 5)))
        self.wrong(1, (deed(0, 0, 5), deed(1, 5, 6)))
        self.wrong(1, (deed(0, 5, 6), deed(1, 0, 5)))
        self.wrong(1, (deed(0, 5, None), deed(1, 0, 5)))
        self.wrong(1, (deed(0, 5, None), deed(1, 5, None)))
        self.wrong(1, (deed(0, 0, 5), deed(1, 5, None)))
        self.wrong(3, (deed(0, 0, 5), deed(1, 1, 6), deed(2, 2, 7), refused(3, 3, 6)))
        self.right((deed(0, 0, 5), deed(1, 1, 4)))

    def test_one_hand_does_one_thing_at_a_time(self):
        self.wrong(1, (deed(0, 0, 5), deed(0, 1, 6)))
        self.wrong(1, (deed(0, 1, 6), deed(0, 0, 5)))
        self.wrong(1, (deed(0, 0, 5), deed(0, 1, 4)))
        self.wrong(1, (deed(0, 1, 4), deed(0, 0, 5)))
        self.wrong(1, (deed(0, 0, None), deed(0, 1, 4)))
        self.wrong(1, (deed(0, 1, 4), deed(0, 0, None)))
        self.wrong(1, (deed(0, 1, None), deed(0, 0, None)))
        self.wrong(2, (deed(0, 0, 5), deed(1, 1, 6), refused(0, 4, 7)))
        self.right((deed(0, 4, None), deed(0, 0, 3)))
        self.right((deed(0, 4, 5), deed(0, 0, 3), deed(0, 7, 8)))

    def test_no_deed_goes_ahead_of_deeds_that_do_not_go_together(self):
        self.wrong(3, (deed(0, 0, 5), deed(0, 0, 5), deed(0, 1, 2), None, ()))
        self.wrong(2, (deed(0, 0, 5), deed(1, 8, 9), deed(0, 1, 6), deed(1, 8, 10)))


class Order(unittest.TestCase):
    """[10]: hands, their deeds, and which deed is really ahead."""

    HISTORY = (deed(3, 20, None), refused(0, 8, 9), deed(3, 10, 13), deed(0, 0, 5), deed(5, 4, 10 ** 30), deed(3, 1, 3))

    def test_hands_in(self):
        self.assertEqual(told_alike(self, hands_in, (self.HISTORY,)), (0, 3, 5))
        self.assertEqual(hands_in(()), ())
        self.assertEqual(hands_in((refused(2, 0, 1),)), (2,))

    def test_of_hand(self):
        self.assertEqual(told_alike(self, of_hand, (self.HISTORY, 3)), (5, 2, 0))
        self.assertEqual(of_hand(self.HISTORY, 0), (3, 1))
        self.assertEqual(of_hand(self.HISTORY, 5), (4,))
        self.assertEqual(of_hand(self.HISTORY, 1), ())
        self.assertEqual(of_hand((), 0), ())

    def test_really_ahead(self):
        ahead = {(1, 0), (1, 2), (2, 0), (3, 0), (3, 1), (3, 2), (5, 0), (5, 1), (5, 2), (5, 4)}
        for a in range(6):
            for b in range(6):
                told = told_alike(self, really_ahead, (self.HISTORY, a, b))
                self.assertIs(told, (a, b) in ahead, (a, b))


class Quiet(unittest.TestCase):
    """[11]: quiet times."""

    def told(self, times, *history):
        self.assertEqual(told_alike(self, quiet_times, (history,)), times)
        self.assertEqual(quiet_times(history[::-1]), times)

    def test_none(self):
        self.told(())
        self.told((), deed(0, 3, 5))
        self.told((), deed(0, 3, None))
        self.told((), deed(0, 3, 5), deed(1, 4, 6))
        self.told((), deed(0, 3, 9), deed(1, 4, 6), deed(1, 7, 8))

    def test_between_deeds(self):
        self.told((6,), deed(0, 3, 5), deed(1, 6, 7))
        self.told((6,), deed(0, 3, 5), deed(0, 600, 700))
        self.told((6, 11), deed(0, 3, 5), deed(1, 7, 9), deed(2, 8, 10), deed(0, 10 ** 30, 10 ** 30 + 5))

    def test_deeds_that_never_ended(self):
        self.told((), deed(0, 3, None), deed(1, 6, 7), deed(1, 8, 9))
        self.told((6,), deed(1, 3, 5), deed(0, 8, None), deed(1, 9, 10), deed(1, 12, 13))
        self.told((6,), deed(1, 3, 5), deed(0, 8, None))

    def test_refused_ones_count(self):
        self.told((), deed(0, 3, 5), refused(2, 4, 8), deed(1, 6, 9))
        self.told((6,), refused(0, 3, 5), refused(1, 7, 8))
        self.told((6, 9), deed(0, 3, 5), refused(1, 7, 8), deed(0, 10, 11))

    def test_by_the_words(self):
        history = (deed(0, 2, 4), deed(1, 3, 6), deed(0, 8, 12), refused(2, 14, 15), deed(1, 18, 21), deed(3, 19, None))
        least = {}
        for time in range(25):
            ended = [one for one in history if one[2] is not None and one[2] < time]
            later = [one for one in history if one[1] >= time]
            if ended and later and len(ended) + len(later) == len(history):
                least.setdefault(len(ended), time)
        self.told(tuple(sorted(least.values())), *history)
        self.assertEqual(quiet_times(history), (7, 13, 16))


if __name__ == "__main__":
    unittest.main()
