"""Each example of the document, word for word."""

import re
import unittest
from pathlib import Path

from bandrims.bands import webs
from bandrims.base import formulas, numbers

HERE = Path(__file__).resolve().parent
DOC = HERE.parent.parent / "shared" / "DOC.md"
MODULES = {"numbers": numbers, "formulas": formulas, "webs": webs}
RAISED = re.compile(r"raises (\w+)(?:\((.*)\))?")


def steps_of(text):
    """The pairs of a line that is typed and of what it shows, "" for nothing."""
    found = []
    for line in text.splitlines():
        if line.startswith(">>> "):
            found.append((line[4:], ""))
        else:
            found[-1] = (found[-1][0], line)
    return found


class Examples(unittest.TestCase):
    def run_steps(self, name):
        text = (HERE / "examples" / f"{name}.txt").read_text()
        space = dict(vars(MODULES[name]))
        for typed, shown in steps_of(text):
            with self.subTest(typed=typed):
                self.check_step(space, typed, shown)
        if DOC.exists():
            doc = DOC.read_text()
            for typed, shown in steps_of(text):
                self.assertIn(f">>> {typed}\n{shown}", doc)

    def check_step(self, space, typed, shown):
        told = RAISED.fullmatch(shown)
        if shown == "":
            exec(typed, space)
        elif told is None:
            self.assertEqual(repr(eval(typed, space)), shown)
        else:
            with self.assertRaises(Exception) as caught:
                eval(typed, space)
            self.assertEqual(type(caught.exception).__name__, told[1])
            if told[2] is not None:
                self.assertEqual(repr(tuple(vars(caught.exception).values())), f"({told[2]},)")

    def test_numbers(self):
        self.run_steps("numbers")

    def test_formulas(self):
        self.run_steps("formulas")

    def test_webs(self):
        self.run_steps("webs")

    def test_no_example_is_left_out(self):
        many = {name: len(steps_of((HERE / "examples" / f"{name}.txt").read_text())) for name in MODULES}
        self.assertEqual(many, {"numbers": 5, "formulas": 5, "webs": 7})
