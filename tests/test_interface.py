"""The interface: every name is there, and takes what it should by its places."""

import importlib
import inspect
import unittest

from storejudge.desk import Desk
from storejudge.errors import JudgeError, NoHistory

# Of each module its functions, with how many arguments each takes.
FUNCTIONS = {
    "calls": {"is_call": 1, "is_step": 1, "is_answer": 2, "may_change": 1, "keys_of": 1, "left_by": 2, "part_on": 3},
    "store": {"is_stand": 1, "done": 2},
    "histories": {"look_over": 1, "hands_in": 1, "of_hand": 2, "quiet_times": 1, "really_ahead": 3},
    "problems": {"is_problem": 1, "may_come": 2, "behind": 3},
    "rows": {"row_fault": 2},
    "touches": {"needs": 2, "leaves": 2},
    "stands": {"stands_fault": 2, "search": 2, "ends": 2},
    "rings": {"ring_fault": 2},
    "forced": {"forced": 1},
    "papers": {"paper_fault": 2},
    "cased": {"cased": 3},
    "judge": {"judge": 2},
    "promises": {"problems_of": 2, "deeds_of": 2},
    "verdicts": {"judged": 3, "verdict_fault": 3},
    "carried": {"implies": 2, "carried": 4},
    "groups": {"groups": 1, "part": 2},
    "joins": {"joined": 2},
    "quiets": {"pieces": 1, "in_pieces": 2},
    "asides": {"aside": 2},
    "leasts": {"least": 2},
    "stores": {"promise_of": 1},
    "makers": {"make": 3},
    "texts": {
        "show_history": 1, "show_problem": 1, "show_row": 1, "show_paper": 1, "read_history": 1, "read_problem": 1,
        "read_row": 1, "read_paper": 1,
    },
}
ERRORS = ("NoProblem", "NoPromise", "NoStore", "NoText", "NoLine", "NoHistory")


class Interface(unittest.TestCase):
    def test_functions(self):
        for module, functions in FUNCTIONS.items():
            found = importlib.import_module("storejudge." + module)
            for name, count in functions.items():
                self.assertEqual(len(inspect.signature(getattr(found, name)).parameters), count, (module, name))

    def test_values(self):
        self.assertEqual(importlib.import_module("storejudge.store").FIRST, (0,) * 8)
        self.assertEqual(importlib.import_module("storejudge.promises").PROMISES,
                         ("real", "row", "any", "snap", "stand", "hand", "thing", "kept"))

    def test_errors(self):
        found = importlib.import_module("storejudge.errors")
        self.assertEqual(JudgeError.__bases__, (ValueError,))
        for name in ERRORS:
            self.assertEqual(getattr(found, name).__bases__, (JudgeError,))
        self.assertEqual(NoHistory(3).at, 3)

    def test_desk(self):
        self.assertEqual(len(inspect.signature(Desk).parameters), 0)
        self.assertEqual(Desk().say("history"), [])


if __name__ == "__main__":
    unittest.main()
