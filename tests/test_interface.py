"""The head of the interface: names, modules, parameters and where all is defined."""

import inspect
import unittest

from bandrims import errors
from bandrims.bands import webs
from bandrims.base import formulas, numbers

FUNCTIONS = {
    numbers: {
        "is_integer": ["value"], "is_name": ["value"], "is_fraction": ["value"], "is_number": ["value"],
        "fraction": ["top", "bottom"], "added": ["one", "other"], "less": ["one", "other"],
        "multiplied": ["one", "other"], "divided": ["one", "other"], "compared": ["one", "other"],
        "power_of": ["number", "many"], "floor_of": ["number"], "factorial": ["number"], "binomial": ["top", "low"],
        "odd_product": ["number"], "bernoulli": ["number"], "number_text": ["number"], "number_of_text": ["text"]},
    formulas: {
        "is_symmetric": ["formula"], "mean_of": ["formula"], "formula_of_text": ["letters", "text"],
        "fitted": ["values"]},
    webs: {
        "is_web_data": ["value"], "are_lengths": ["web", "value"], "are_whole_lengths": ["web", "value"],
        "rim_lengths": ["web", "lengths"], "tie_weights": ["web", "name"]},
}
METHODS = {
    formulas.Formula: {
        "__init__": ["letters", "terms"], "plus": ["other"], "minus": ["other"], "times": ["other"],
        "scaled": ["number"], "power": ["many"], "at": ["values"], "part": ["degree"], "coefficient": ["exponents"],
        "exchanged": ["order"], "fixed": ["place", "number"], "__len__": [], "__bool__": [], "__str__": []},
    webs.Web: {
        "__init__": ["after", "mate", "names"], "place_round": ["end"], "rim_round": ["end"], "tie_of": ["end"],
        "sides_of": ["end"], "__len__": [], "__str__": []},
}
CLASS_METHODS = {formulas.Formula: {"letter": ["letters", "place"]},
                 webs.Web: {"bundle": ["ties"], "crossed": ["handles"]}}
PROPERTIES = {formulas.Formula: ["letters", "terms", "degree"],
              webs.Web: ["after", "mate", "names", "size", "heads", "places", "rims", "degrees", "handles", "is_full",
                         "is_threes"]}
KEPT = {"ParseError": "spot", "InvalidNumber": "given", "UnknownName": "name", "NothingToUndo": "wanted",
        "TooMany": "limit", "Refused": "reason"}


def parameters(call):
    """The names of the parameters, all of which can be passed by position and by name."""
    found = list(inspect.signature(call).parameters.values())
    assert all([one.kind == one.POSITIONAL_OR_KEYWORD and one.default is one.empty for one in found])
    return [one.name for one in found]


class Interface(unittest.TestCase):
    def test_modules(self):
        told = ["bandrims.errors", "bandrims.base.numbers", "bandrims.base.formulas", "bandrims.bands.webs"]
        self.assertEqual([module.__name__ for module in (errors, numbers, formulas, webs)], told)

    def test_functions(self):
        for module, calls in FUNCTIONS.items():
            for name, told in calls.items():
                call = getattr(module, name)
                self.assertTrue(inspect.isfunction(call), name)
                self.assertEqual((call.__module__, call.__name__), (module.__name__, name))
                self.assertEqual(parameters(call), told, name)

    def test_classes(self):
        self.assertEqual(formulas.Formula.__module__, "bandrims.base.formulas")
        self.assertEqual(webs.Web.__module__, "bandrims.bands.webs")
        for kind, calls in METHODS.items():
            for name, told in calls.items():
                self.assertIn(name, vars(kind))
                self.assertEqual(parameters(vars(kind)[name])[1:], told, name)
            self.assertIn("__eq__", vars(kind))

    def test_class_methods(self):
        for kind, calls in CLASS_METHODS.items():
            for name, told in calls.items():
                self.assertIsInstance(vars(kind)[name], classmethod)
                self.assertEqual(parameters(getattr(kind, name)), told)

    def test_properties(self):
        for kind, names in PROPERTIES.items():
            for name in names:
                self.assertIsInstance(vars(kind)[name], property)

    def test_errors(self):
        for name, told in KEPT.items():
            self.assertEqual(parameters(getattr(errors, name).__init__)[1:], [told])

    def test_by_keyword(self):
        self.assertEqual(numbers.fraction(bottom=4, top=2), (1, 2))
        made = formulas.Formula(terms={(1,): 2}, letters=1)
        self.assertEqual(made.fixed(number=3, place=0).at(values=(0,)), (6, 1))
        self.assertEqual(webs.tie_weights(name=0, web=webs.Web.bundle(ties=2)), (1, 1))
