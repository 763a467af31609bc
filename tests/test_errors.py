import unittest

from storejudge.errors import JudgeError, NoHistory, NoLine, NoProblem, NoPromise, NoStore, NoText

REFUSALS = [NoProblem, NoPromise, NoStore, NoText, NoLine, NoHistory]


class Errors(unittest.TestCase):
    def test_each_refusal_is_a_judge_error_and_a_value_error(self):
        for refusal in REFUSALS:
            self.assertTrue(issubclass(refusal, JudgeError), refusal)
            self.assertTrue(issubclass(refusal, ValueError), refusal)
        self.assertEqual(JudgeError.__bases__, (ValueError,))

    def test_no_refusal_stands_under_another(self):
        for one in REFUSALS:
            for other in REFUSALS:
                self.assertEqual(issubclass(one, other), one is other)

    def test_no_history_has_its_place(self):
        for at in (-1, 0, 59):
            with self.assertRaises(NoHistory) as caught:
                raise NoHistory(at)
            self.assertEqual(caught.exception.at, at)

    def test_the_others_are_raised_with_words(self):
        for refusal in REFUSALS[:-1]:
            with self.assertRaises(JudgeError):
                raise refusal("some words")


if __name__ == "__main__":
    unittest.main()
