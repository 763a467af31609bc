import itertools
import unittest

from helper import ANSWERS, ODD_THINGS, SINGLES, told_alike
from storejudge.calls import is_answer, is_call, is_step, keys_of, left_by, may_change, part_on
from storejudge.store import done


def one_of_each_key(key):
    return [("read", key), ("write", key, 1), ("add", key, 1), ("swap", key, 1, 2)]


class Forms(unittest.TestCase):
    """[4]: what is a call, and what a step."""

    def holds(self, thing, call, step):
        self.assertIs(told_alike(self, is_call, (thing,)), call, thing)
        self.assertIs(told_alike(self, is_step, (thing,)), step, thing)

    def test_each_word(self):
        for call in SINGLES + [("span", 1, 3), ("deal", tuple(SINGLES))]:
            self.holds(call, True, True)
            self.holds(("look", call), False, True)

    def test_keys(self):
        for key in range(8):
            for call in one_of_each_key(key):
                self.holds(call, True, True)
                self.holds(("deal", (call,)), True, True)
            self.holds(("lay", ((key, 3),)), False, True)
        for key in (-1, 8, 9, 10 ** 39, True, False, None, "1", (1,), [1]):
            for call in one_of_each_key(key):
                self.holds(call, False, False)
                self.holds(("deal", (call,)), False, False)
                self.holds(("look", call), False, False)
            self.holds(("lay", ((key, 3),)), False, False)

    def test_numbers(self):
        for value in (0, -1, 10 ** 39, -10 ** 39):
            for call in [("write", 0, value), ("add", 0, value), ("swap", 0, value, 1), ("swap", 0, 1, value)]:
                self.holds(call, True, True)
            self.holds(("lay", ((0, value),)), False, True)
        for value in (True, False, None, "1", (), [1]):
            for call in [("write", 0, value), ("add", 0, value), ("swap", 0, value, 1), ("swap", 0, 1, value)]:
                self.holds(call, False, False)
            self.holds(("lay", ((0, value),)), False, False)

    def test_spans(self):
        for low, high in itertools.product(range(-2, 11), repeat=2):
            right = 0 <= low < high <= 8
            self.holds(("span", low, high), right, right)
        for low, high in [(False, True), (0, True), (False, 1), (0, None), ("0", 1), ((), 1)]:
            self.holds(("span", low, high), False, False)

    def test_deals(self):
        for count in range(7):
            right = 1 <= count <= 4
            self.holds(("deal", (("read", 0),) * count), right, right)
        for parts in itertools.product(SINGLES, repeat=2):
            self.holds(("deal", parts), True, True)
        for part in [("span", 0, 1), ("deal", (("read", 0),)), ("look", ("read", 0)), ("lay", ((0, 1),)), (), None, 3]:
            self.holds(("deal", (part,)), False, False)
            self.holds(("deal", (("read", 0), part)), False, False)
        self.holds(("deal", [("read", 0)]), False, False)
        self.holds(("deal", (["read", 0],)), False, False)
        self.holds(("deal", ("read", 0)), False, False)
        self.holds(("deal", "read"), False, False)

    def test_looks(self):
        for thing in [("look", ("look", ("read", 0))), ("look", ("lay", ((0, 1),))), ("look", "read"), ("look", None),
                      ("look", ["read", 0]), ("look", ())]:
            self.holds(thing, False, False)

    def test_lays(self):
        self.holds(("lay", ((0, 1), (3, 1), (7, -2))), False, True)
        self.holds(("lay", tuple([(key, key) for key in range(8)])), False, True)
        for pairs in [(), ((0, 1), (0, 1)), ((3, 1), (2, 1)), ((0, 1), (3, 1), (3, 2)), ((0, 1, 2),), ((0,),), ([0, 1],),
                      [(0, 1)], (0, 1), None, ((0, 1), None)]:
            self.holds(("lay", pairs), False, False)

    def test_a_part_too_many_or_too_few(self):
        for step, _ in ANSWERS:
            self.holds(step, is_call(step), True)
            self.holds(step + (1,), False, False)
            self.holds(step[:-1], False, False)
            self.holds(step[:1], False, False)
            self.holds(list(step), False, False)

    def test_other_words(self):
        for word in ("", "reads", "READ", "cas", "got", 1, None, True, ("read",), ["read"], b"read"):
            for call in SINGLES:
                self.holds((word,) + call[1:], False, False)

    def test_things_that_are_none(self):
        for thing in ODD_THINGS:
            self.holds(thing, False, False)


class Keys(unittest.TestCase):
    """[4]: which calls may change, and their keys."""

    def test_may_change(self):
        for call, told in [
            (("read", 0), False), (("write", 0, 1), True), (("add", 0, 0), True), (("swap", 0, 1, 1), True),
            (("span", 0, 8), False), (("deal", (("read", 0), ("read", 1))), False),
            (("deal", (("read", 0), ("write", 1, 0))), True), (("deal", (("add", 0, 0), ("read", 1))), True),
            (("deal", (("swap", 0, 1, 2),)), True),
        ]:
            self.assertIs(told_alike(self, may_change, (call,)), told, call)

    def test_keys_of(self):
        for call, told in [
            (("read", 7), (7,)), (("write", 0, 5), (0,)), (("add", 3, 5), (3,)), (("swap", 4, 5, 6), (4,)),
            (("span", 2, 5), (2, 3, 4)), (("span", 7, 8), (7,)), (("span", 0, 8), (0, 1, 2, 3, 4, 5, 6, 7)),
            (("deal", (("read", 5),)), (5,)),
            (("deal", (("read", 5), ("write", 1, 7), ("add", 5, 1), ("read", 0))), (0, 1, 5)),
        ]:
            self.assertEqual(told_alike(self, keys_of, (call,)), told)


class Answers(unittest.TestCase):
    """[6]: the forms of answers."""

    def test_right_forms(self):
        for step, answers in ANSWERS:
            for answer in answers:
                self.assertIs(told_alike(self, is_answer, (step, answer)), True, (step, answer))

    def test_an_answer_of_another_form(self):
        for (step, _), (other, answers) in itertools.product(ANSWERS, repeat=2):
            shape = step[1] if step[0] == "look" else step
            like = other[1] if other[0] == "look" else other
            if {shape[0], like[0]} in [{"read", "add"}, {"write", "lay"}]:
                continue
            if shape[0] != like[0]:
                for answer in answers:
                    self.assertIs(is_answer(step, answer), False, (step, answer))

    def test_refused_of_calls_alone(self):
        for step, _ in ANSWERS:
            self.assertIs(is_answer(step, ("refused",)), step[0] not in ("look", "lay"), step)
            for wrong in [("refused", 1), ["refused"], "refused", ("Refused",)]:
                self.assertIs(is_answer(step, wrong), False)
        self.assertFalse(is_answer(("deal", (("read", 0),)), ("each", (("refused",),))))
        self.assertFalse(is_answer(("deal", (("write", 0, 1), ("read", 0))), ("each", (("refused",), ("got", 1)))))
        self.assertFalse(is_answer(("look", ("deal", (("read", 0),))), ("each", (("refused",),))))

    def test_counts(self):
        for width in range(5):
            self.assertIs(is_answer(("span", 1, 4), ("all", (0,) * width)), width == 3)
            deal = ("deal", (("read", 0),) * 3)
            self.assertIs(is_answer(deal, ("each", (("got", 0),) * width)), width == 3)

    def test_values_are_whole_numbers(self):
        for value in (True, False, None, "1", (), [1]):
            self.assertFalse(is_answer(("read", 0), ("got", value)))
            self.assertFalse(is_answer(("add", 0, 1), ("got", value)))
            self.assertFalse(is_answer(("span", 0, 2), ("all", (0, value))))
            self.assertFalse(is_answer(("deal", (("read", 0),)), ("each", (("got", value),))))
            self.assertFalse(is_answer(("look", ("read", 0)), ("got", value)))

    def test_lists_are_no_tuples(self):
        self.assertFalse(is_answer(("span", 0, 1), ("all", [0])))
        self.assertFalse(is_answer(("deal", (("read", 0),)), ("each", [("got", 0)])))
        self.assertFalse(is_answer(("deal", (("read", 0),)), ("each", (["got", 0],))))
        for step, answers in ANSWERS:
            self.assertFalse(is_answer(step, list(answers[0])))

    def test_a_deals_answers_go_with_their_parts(self):
        deal = ("deal", (("write", 0, 1), ("read", 0)))
        self.assertTrue(is_answer(deal, ("each", (("done",), ("got", 9)))))
        self.assertFalse(is_answer(deal, ("each", (("got", 9), ("done",)))))
        self.assertFalse(is_answer(deal, ("each", (("done",), None))))

    def test_odd_things(self):
        for step, _ in ANSWERS:
            for thing in ODD_THINGS:
                self.assertIs(told_alike(self, is_answer, (step, thing)), False, (step, thing))

    def test_of_what_is_no_step_there_is_no_answer(self):
        for thing in ODD_THINGS + [("look", ("look", ("read", 0))), ("read", 8)]:
            self.assertIs(is_answer(thing, ("got", 1)), False)
            self.assertIs(is_answer(thing, ("refused",)), False)


class Left(unittest.TestCase):
    """[7]: what a call with this answer left."""

    def test_each_word(self):
        for call, answer, left in [
            (("read", 1), ("got", 4), ()),
            (("write", 1, 4), ("done",), ((1, 4),)),
            (("write", 1, 0), ("done",), ((1, 0),)),
            (("add", 1, 4), ("got", 9), ((1, 9),)),
            (("add", 1, 0), ("got", 0), ((1, 0),)),
            (("swap", 1, 4, 5), ("yes",), ((1, 5),)),
            (("swap", 1, 4, 4), ("yes",), ((1, 4),)),
            (("swap", 1, 4, 0), ("yes",), ((1, 0),)),
            (("swap", 1, 4, 5), ("no",), ()),
            (("span", 1, 3), ("all", (4, 5)), ()),
        ]:
            self.assertEqual(told_alike(self, left_by, (call, answer)), left)
            self.assertEqual(left_by(call, ("refused",)), ())
            if call[0] != "span":
                self.assertEqual(left_by(("deal", (call,)), ("each", (answer,))), left)

    def test_deals(self):
        deal = ("deal", (("write", 5, 1), ("read", 0), ("add", 2, 3), ("swap", 5, 1, 8)))
        answers = (("done",), ("got", 6), ("got", 4))
        self.assertEqual(left_by(deal, ("each", answers + (("yes",),))), ((2, 4), (5, 8)))
        self.assertEqual(left_by(deal, ("each", answers + (("no",),))), ((2, 4), (5, 1)))
        self.assertEqual(left_by(deal, ("refused",)), ())

    def test_of_a_key_changed_twice_the_last_one(self):
        deal = ("deal", (("write", 0, 1), ("add", 0, 1), ("write", 0, 0), ("read", 0)))
        self.assertEqual(left_by(deal, ("each", (("done",), ("got", 2), ("done",), ("got", 0)))), ((0, 0),))

    def test_as_the_store_has_it(self):
        stand = (3, 0, 5, 0, 0, 0, 0, 0)
        for step, _ in ANSWERS:
            if is_call(step):
                answer, after = done(stand, step)
                laid = list(stand)
                for key, value in left_by(step, answer):
                    laid[key] = value
                self.assertEqual(tuple(laid), after, step)


class Parts(unittest.TestCase):
    """[7]: the part of a call on a key."""

    def test_a_call_of_one_key_is_itself(self):
        for call, answer in [(("read", 2), ("got", 4)), (("write", 2, 1), ("done",)), (("add", 2, 1), ("got", 3)),
                             (("swap", 2, 1, 3), ("no",))]:
            self.assertEqual(told_alike(self, part_on, (call, answer, 2)), (call, answer))
            self.assertEqual(part_on(call, None, 2), (call, None))
            for key in (0, 1, 3, 7):
                self.assertIsNone(part_on(call, answer, key))
                self.assertIsNone(part_on(call, None, key))

    def test_a_span_is_a_read(self):
        span = ("span", 2, 5)
        answer = ("all", (7, 8, 9))
        for key, value in [(2, 7), (3, 8), (4, 9)]:
            self.assertEqual(part_on(span, answer, key), (("read", key), ("got", value)))
            self.assertEqual(part_on(span, None, key), (("read", key), None))
        for key in (0, 1, 5, 7):
            self.assertIsNone(part_on(span, answer, key))
            self.assertIsNone(part_on(span, None, key))
        self.assertEqual(part_on(("span", 3, 4), ("all", (6,)), 3), (("read", 3), ("got", 6)))

    def test_a_deal_is_its_parts_on_the_key(self):
        deal = ("deal", (("add", 5, 1), ("read", 0), ("swap", 5, 1, 8), ("write", 5, 2)))
        answer = ("each", (("got", 1), ("got", 6), ("yes",), ("done",)))
        on_five = ("deal", (("add", 5, 1), ("swap", 5, 1, 8), ("write", 5, 2)))
        self.assertEqual(part_on(deal, answer, 0), (("read", 0), ("got", 6)))
        self.assertEqual(part_on(deal, None, 0), (("read", 0), None))
        self.assertEqual(part_on(deal, answer, 5), (on_five, ("each", (("got", 1), ("yes",), ("done",)))))
        self.assertEqual(part_on(deal, None, 5), (on_five, None))
        self.assertIsNone(part_on(deal, answer, 1))
        self.assertIsNone(part_on(deal, None, 1))

    def test_a_deal_of_one_part(self):
        deal = ("deal", (("write", 3, 1),))
        self.assertEqual(part_on(deal, ("each", (("done",),)), 3), (("write", 3, 1), ("done",)))
        self.assertEqual(part_on(deal, None, 3), (("write", 3, 1), None))

    def test_a_part_is_a_call_with_an_answer_of_it(self):
        for step, answers in ANSWERS:
            if is_call(step):
                for key, answer in itertools.product(keys_of(step), answers):
                    call, told = part_on(step, answer, key)
                    self.assertTrue(is_answer(call, told))
                    self.assertEqual(keys_of(call), (key,))


if __name__ == "__main__":
    unittest.main()
