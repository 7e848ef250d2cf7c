"""The texts of formulas, written and read."""

import unittest
from fractions import Fraction

from bandrims.base.formulas import Formula, formula_of_text
from bandrims.errors import InvalidNumber, ParseError
from tests.kinds import Refusing, between, kinds, raised, short
from tests.test_formulas import some_formulas

TEXTS = {
    "0": (2, {}),
    "1": (2, {(0, 0): 1}),
    "-1": (2, {(0, 0): -1}),
    "-2/3": (2, {(0, 0): (-2, 3)}),
    "x0": (2, {(1, 0): 1}),
    "-x1": (2, {(0, 1): -1}),
    "-x2^2": (3, {(0, 0, 2): -1}),
    "10 x0^10": (1, {(10,): 10}),
    "1/48 x0^2 x1 - x1 + 3": (2, {(2, 1): (1, 48), (0, 1): -1, (0, 0): 3}),
    "x0^2 + x0 x1 + x1^2 + x0 + x1 + 1": (2, {(2, 0): 1, (1, 1): 1, (0, 2): 1, (1, 0): 1, (0, 1): 1, (0, 0): 1}),
    "-1/2 x0 x1 x2 - 2 x1 x2^2 - 1/3": (3, {(1, 1, 1): (-1, 2), (0, 1, 2): -2, (0, 0, 0): (-1, 3)}),
    "x0 x7^59 + x7^60": (8, {(1, 0, 0, 0, 0, 0, 0, 59): 1, (0,) * 7 + (60,): 1}),
}


class Writing(unittest.TestCase):
    def test_texts(self):
        for text, (letters, terms) in TEXTS.items():
            self.assertEqual(str(Formula(letters, terms)), text)

    def test_sequence_of_terms(self):
        for one in some_formulas(3):
            rows = sorted(one.terms, key=lambda row: (-sum(row), [-k for k in row]))
            signed = [str(Formula(3, {row: one.terms[row]})) for row in rows]
            told = " + ".join(signed).replace("+ -", "- ") or "0"
            self.assertEqual(str(one), told)


class Reading(unittest.TestCase, Refusing):
    def test_texts(self):
        for text, (letters, terms) in TEXTS.items():
            for more in range(letters, 9):
                found = formula_of_text(more, text)
                told = {row + (0,) * (more - letters): number for row, number in terms.items()}
                self.assertEqual(found, Formula(more, told))

    def test_there_and_back(self):
        for letters in (1, 2, 5, 8):
            for one in some_formulas(letters):
                self.assertEqual(formula_of_text(letters, str(one)), one)

    def test_letters(self):
        self.refuses_kinds(InvalidNumber, lambda value: formula_of_text(value, "0"), between(1, 8), "given")
        for letters in range(1, 8):
            self.refuses(ParseError, formula_of_text, letters, f"x{letters}", spot=0)
            self.assertEqual(formula_of_text(letters + 1, f"x{letters}"), Formula.letter(letters + 1, letters))
        for text in ("x8", "x9", "x10", "x", "x-1"):
            self.refuses(ParseError, formula_of_text, 8, text, spot=0)

    def test_the_order_of_errors(self):
        self.refuses(InvalidNumber, formula_of_text, 0, None, given=0)
        self.refuses(InvalidNumber, formula_of_text, 9, "x0 +", given=9)
        self.refuses(InvalidNumber, formula_of_text, True, 7, given=True)

    def test_kinds(self):
        for value in kinds():
            with self.subTest(value=short(value)):
                if type(value) is not str:
                    self.refuses(ParseError, formula_of_text, 2, value, spot=None)
                elif raised(formula_of_text, 2, value) is not None:
                    self.refuses(ParseError, formula_of_text, 2, value, spot=0)
                else:
                    self.assertEqual(str(formula_of_text(2, value)), value)

    def test_wrong_texts(self):
        wrong = ["", " ", "+", "-", "x", "x1 x0", "x0^1", "x0^0", "1 x0", "-1 x0", "x0*x1", "x0  x1", "x0 +x1", "x0+ x1",
                 "x0 + - x1", "x0 + -x1", "- x0", "+ x0", "x0 -", "x0 + ", " x0", "x0 ", "x0\n", "x0 + x0", "x0 - x0",
                 "x0 + x0^2", "1 + x0", "x1 + x0", "2/4 x0", "2/1 x0", "0 x0", "x0 + 0", "-0", "00", "01 x0", "x00", "x0^02",
                 "x0^-1", "x0^61", "x0^30 x1^31", "x0^999", "x0^", "x^2", "X0", "x0 x0", "x0 2", "2 3", "2x0", "x0x1", "x0^^2",
                 "x0^2^2", "1/0 x0", "1.5 x0", "x0 + 1/-2", "--x0", "1/2/3", "/2", "x0 / 2", "2 x0 + x1 + 3 x0", "x1^2 + x0 x1"]
        for text in wrong:
            with self.subTest(text=text):
                self.refuses(ParseError, formula_of_text, 2, text, spot=0)

    def test_texts_one_sign_off(self):
        signs = "0123456789x^/+- "
        for text in ("1/48 x0^2 x1 - x1 + 3", "-x0 + 2"):
            near = [text[:k] + sign + text[k:] for k in range(len(text) + 1) for sign in signs]
            near += [text[:k] + sign + text[k + 1:] for k in range(len(text)) for sign in signs]
            near += [text[:k] + text[k + 1:] for k in range(len(text))]
            right = 0
            for other in near:
                found = raised(formula_of_text, 2, other)
                if found is None:
                    right += 1
                    self.assertEqual(str(formula_of_text(2, other)), other)
                else:
                    self.assertEqual((type(found), found.spot), (ParseError, 0))
            self.assertGreater(right, 30)

    def test_near_texts_that_are_right(self):
        for text, term in (("1/49 x0^2 x1 - x1 + 3", (2, 1)), ("1/48 x0^3 x1 - x1 + 3", (3, 1)),
                           ("-1/48 x0^2 x1 - x1 + 3", (2, 1)), ("1/48 x0^2 x1 - x1 + 32", (0, 0))):
            self.assertEqual(str(formula_of_text(2, text)), text)
            self.assertNotEqual(formula_of_text(2, text).coefficient(term), (0, 1))

    def test_bounds(self):
        self.assertEqual(formula_of_text(2, "x0^30 x1^30").degree, 60)
        self.assertEqual(formula_of_text(1, "x0^60").degree, 60)
        long = "7" * 3997 + " x0"
        self.assertEqual(len(long), 4000)
        self.assertEqual(formula_of_text(1, long).terms, {(1,): (int("7" * 3997), 1)})
        self.refuses(ParseError, formula_of_text, 1, "7" + long, spot=0)
        self.refuses(ParseError, formula_of_text, 1, "7" * 4001, spot=0)
        self.assertEqual(formula_of_text(1, "7" * 4000).terms, {(0,): (int("7" * 4000), 1)})
        self.assertEqual(exact_top("-1/" + "1" + "0" * 1000 + " x0"), Fraction(-1, 10 ** 1000))


def exact_top(text):
    """The number of the letter of a formula in one letter."""
    return Fraction(*formula_of_text(1, text).coefficient((1,)))
