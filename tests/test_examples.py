"""Each example of the document, word for word, and those of README.md."""

import builtins
import doctest
import re
import unittest
from pathlib import Path

from bandrims.bands import changes, codes, webs
from bandrims.base import formulas, numbers
from bandrims.crossing import rounds
from bandrims.lots import lists
from bandrims.nodes import pieces
from bandrims.sides import pairings, solutions
from bandrims.signs import euler, onerim
from bandrims.tables import forms, recursion
from bandrims.tops import tau, threes, volumes
from bandrims.use import desk
from bandrims.wide import borders

HERE = Path(__file__).resolve().parent
DOC = HERE.parent.parent / "shared" / "DOC.md"
README = HERE.parent / "README.md"
MODULES = {"numbers": numbers, "formulas": formulas, "webs": webs, "codes": codes, "changes": changes, "lists": lists,
           "solutions": solutions, "pairings": pairings, "recursion": recursion, "forms": forms, "tau": tau,
           "volumes": volumes, "threes": threes, "euler": euler, "onerim": onerim, "pieces": pieces, "borders": borders,
           "rounds": rounds, "desk": desk}
# How many lines of each file are typed, those among them that make THETA and CROSS.
TYPED = {"numbers": 5, "formulas": 5, "webs": 7, "codes": 7, "changes": 7, "lists": 6, "solutions": 6, "pairings": 6,
         "recursion": 3, "forms": 5, "tau": 5, "volumes": 4, "threes": 7, "euler": 3, "onerim": 6,
         "pieces": 6, "borders": 3, "rounds": 6, "desk": 7}
RAISED = re.compile(r"raises (\w+)(?:\((.*)\))?")


def steps_of(text):
    """The pairs of a line that is typed and of what it shows, "" for nothing."""
    found = []
    for line in text.splitlines():
        if line.startswith(">>> "):
            found.append((line[4:], ""))
        else:
            found[-1] = (found[-1][0], line)
    return found


def steps_of_doc():
    """All such pairs of the document."""
    blocks = re.findall(r"```\n(>>>.*?)```", DOC.read_text(), re.S)
    return [step for block in blocks for step in steps_of(block)]


class Examples(unittest.TestCase):
    def run_steps(self, name):
        text = (HERE / "examples" / f"{name}.txt").read_text()
        # All examples can use webs, whatever the module of their stage imports.
        space = {"Web": webs.Web, **vars(MODULES[name])}
        for typed, shown in steps_of(text):
            with self.subTest(typed=typed):
                self.check_step(space, typed, shown)
        if DOC.exists():
            doc = DOC.read_text()
            for typed, shown in steps_of(text):
                self.assertIn(f">>> {typed}\n{shown}", doc)

    def check_step(self, space, typed, shown):
        told = RAISED.fullmatch(shown)
        if shown == "":
            exec(typed, space)
        elif told is None:
            self.assertEqual(repr(eval(typed, space)), shown)
        else:
            with self.assertRaises(Exception) as caught:
                eval(typed, space)
            self.assertEqual(type(caught.exception).__name__, told[1])
            if told[2] is not None:
                self.assertEqual(repr(tuple(vars(caught.exception).values())), f"({told[2]},)")

    def test_numbers(self):
        self.run_steps("numbers")

    def test_formulas(self):
        self.run_steps("formulas")

    def test_webs(self):
        self.run_steps("webs")

    def test_codes(self):
        self.run_steps("codes")

    def test_changes(self):
        self.run_steps("changes")

    def test_lists(self):
        self.run_steps("lists")

    def test_solutions(self):
        self.run_steps("solutions")

    def test_pairings(self):
        self.run_steps("pairings")

    def test_recursion(self):
        self.run_steps("recursion")

    def test_forms(self):
        self.run_steps("forms")

    def test_tau(self):
        self.run_steps("tau")

    def test_volumes(self):
        self.run_steps("volumes")

    def test_threes(self):
        self.run_steps("threes")

    def test_euler(self):
        self.run_steps("euler")

    def test_onerim(self):
        self.run_steps("onerim")

    def test_pieces(self):
        self.run_steps("pieces")

    def test_borders(self):
        self.run_steps("borders")

    def test_rounds(self):
        self.run_steps("rounds")

    def test_desk(self):
        self.run_steps("desk")

    def test_no_example_is_left_out(self):
        many = {name: len(steps_of((HERE / "examples" / f"{name}.txt").read_text())) for name in MODULES}
        self.assertEqual(many, TYPED)
        if DOC.exists():
            # The two lines that make THETA and CROSS stand in several files, and once in the document.
            told = [step for name in MODULES for step in steps_of((HERE / "examples" / f"{name}.txt").read_text())]
            self.assertEqual(set(told), set(steps_of_doc()))

    def test_readme(self):
        blocks = re.findall(r"```\n(>>>.*?)```", README.read_text(), re.S)
        test = doctest.DocTestParser().get_doctest("".join(blocks), {}, "README.md", None, 0)
        self.assertGreater(len(test.examples), 20)
        self.assertEqual(doctest.DocTestRunner().run(test).failed, 0)
        # doctest leaves what was shown last among the builtins.
        vars(builtins).pop("_", None)
