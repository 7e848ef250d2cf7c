"""The head of the interface: names, modules, parameters and where all is defined."""

import inspect
import unittest

from bandrims import errors
from bandrims.bands import changes, codes, webs
from bandrims.base import formulas, numbers
from bandrims.crossing import rounds
from bandrims.lots import lists
from bandrims.nodes import pieces
from bandrims.sides import pairings, solutions
from bandrims.signs import euler, onerim
from bandrims.tables import forms, recursion
from bandrims.tops import tau, threes, volumes
from bandrims.use import desk
from bandrims.wide import borders

FUNCTIONS = {
    numbers: {
        "is_integer": ["value"], "is_name": ["value"], "is_fraction": ["value"], "is_number": ["value"],
        "fraction": ["top", "bottom"], "added": ["one", "other"], "less": ["one", "other"],
        "multiplied": ["one", "other"], "divided": ["one", "other"], "compared": ["one", "other"],
        "power_of": ["number", "many"], "floor_of": ["number"], "factorial": ["number"], "binomial": ["top", "low"],
        "odd_product": ["number"], "bernoulli": ["number"], "number_text": ["number"], "number_of_text": ["text"]},
    formulas: {
        "is_symmetric": ["formula"], "mean_of": ["formula"], "formula_of_text": ["letters", "text"],
        "fitted": ["values"]},
    webs: {
        "is_web_data": ["value"], "are_lengths": ["web", "value"], "are_whole_lengths": ["web", "value"],
        "rim_lengths": ["web", "lengths"], "tie_weights": ["web", "name"]},
    codes: {
        "code_from": ["web", "end"], "least_code": ["web"], "is_code": ["value"], "web_of_code": ["code"],
        "are_alike": ["one", "other"], "likeness": ["one", "other"], "is_likeness": ["one", "other", "value"],
        "symmetries": ["web"], "symmetry_number": ["web"], "renamed": ["web", "order"], "shuffled": ["web", "order"],
        "mirrored": ["web"], "rim_orders": ["web"], "has_turning": ["web"]},
    changes: {
        "drawn_together": ["web", "end"], "parted": ["web", "first", "second"], "taken_out": ["web", "end"],
        "put_in": ["web", "first", "second"], "is_flip": ["web", "value"], "flipped": ["web", "end"],
        "turned_over": ["web"], "flips_between": ["one", "other"], "is_flips": ["one", "other", "value"]},
    lists: {
        "full_webs": ["handles", "many"], "threes_webs": ["handles", "many"], "each_full": ["handles", "many"],
        "place_in_list": ["web"], "web_numbers": ["handles", "many"], "degree_numbers": ["handles", "many"],
        "web_sum": ["handles", "many", "ties"], "drawn_places": ["web"]},
    solutions: {
        "solution_number": ["web", "rims"], "web_count": ["web", "rims"], "solutions": ["web", "rims"],
        "a_solution": ["web", "rims"], "is_solution": ["web", "rims", "value"],
        "led_lengths": ["web", "lengths", "move"], "keeping_number": ["web", "lengths"],
        "least_solutions": ["web", "rims"], "count_by_lists": ["handles", "rims"]},
    pairings: {
        "is_pairing": ["rims", "value"], "is_proper": ["rims", "pairing"], "side_after": ["rims", "side"],
        "side_web": ["rims", "pairing"], "pairings": ["rims"], "web_of_pairing": ["rims", "pairing"],
        "pairing_of_web": ["web", "lengths"], "turned_pairing": ["rims", "pairing", "steps"],
        "count_by_pairings": ["handles", "rims"]},
    recursion: {
        "count_by_rims": ["handles", "rims"], "rim_sum": ["call", "handles", "rims"],
        "is_zero_count": ["handles", "rims"], "least_sum": ["handles", "many"], "rim_choices": ["handles", "rims"]},
    forms: {
        "count_form": ["handles", "many", "odd"], "is_count_form": ["handles", "many", "odd", "value"],
        "count_forms": ["handles", "many"], "form_top": ["handles", "many"], "count": ["handles", "rims"],
        "extended_count": ["handles", "rims"], "sum_below": ["handles", "rims"]},
    tau: {
        "handles_of": ["exponents"], "tau_number": ["exponents"], "tau_terms": ["exponents"],
        "tau_row": ["handles", "many"], "tau_by_rules": ["exponents"]},
    volumes: {
        "volume_form": ["handles", "many"], "volume_number": ["handles", "exponents"], "volume": ["handles", "lengths"],
        "zero_rim_form": ["handles", "many"], "short_rim_form": ["handles", "many"],
        "grown": ["handles", "many", "number"]},
    threes: {
        "web_product": ["web", "values"], "threes_terms": ["handles", "many", "values"],
        "threes_sum": ["handles", "many", "values"], "tau_sum": ["handles", "many", "values"],
        "tau_by_threes": ["exponents"]},
    euler: {
        "euler_number": ["handles", "many"], "tie_sums": ["handles", "many"], "signed_sum": ["handles", "many"],
        "zero_value": ["handles", "many"], "one_rim_sum": ["handles"]},
    onerim: {
        "gluings": ["handles", "ties"], "gluing_row": ["ties"], "gluing_value": ["ties", "colours"],
        "bare_gluings": ["handles", "ties"], "full_gluings": ["handles", "ties"], "is_gluing": ["value"],
        "gluing_pairings": ["ties"], "web_of_gluing": ["pairing"], "gluing_of_web": ["web", "end"],
        "gluing_handles": ["pairing"], "turns_of": ["pairing"], "turned": ["pairing", "steps"]},
    pieces: {
        "are_alike_pieces": ["one", "value"], "all_joined": ["handles", "many"], "node_numbers": ["handles", "many"],
        "joined_terms": ["handles", "rims"], "joined_count": ["handles", "rims"],
        "joined_form": ["handles", "many", "odd"], "closed_euler": ["handles", "many"]},
    borders: {
        "wide_form": ["handles", "many"], "wide_by_tau": ["handles", "many"],
        "wide_value": ["handles", "borders", "square"], "kernel": ["step"], "border_cut": ["handles", "many"],
        "border_slope": ["handles", "many"], "closed_number": ["handles"]},
    rounds: {
        "is_closed": ["web", "value"], "is_tree": ["web", "value"], "tree_ties": ["web"],
        "round_of": ["web", "tree", "end"], "tree_rounds": ["web", "tree"], "rim_row": ["web", "name"],
        "rim_weights": ["web", "row"], "crossing_number": ["web", "one", "other"], "crossing_table": ["web", "tree"],
        "mixed_table": ["web", "tree"], "is_tight": ["web", "value"], "tight_number": ["web"],
        "is_bridge": ["web", "end"]},
    desk: {"is_pledge": ["value"]},
}
GENERATORS = {lists: ["each_full"], solutions: ["solutions"], pairings: ["pairings"], onerim: ["gluing_pairings"]}
CONSTANTS = {
    codes: {"MOST_ENDS": 48, "MOST_RIMS": 8}, changes: {"MAX_TIES": 24, "MAX_RIMS": 8, "MOST_FLIPS": 200},
    lists: {"MAX_DEPTH": 4}, solutions: {"MAX_SUM": 30}, pairings: {"MAX_SIDES": 12, "MAX_SUM": 1000},
    recursion: {"MAX_SUM": 40, "MOST_DEPTH": 5, "MOST_RIMS": 6}, forms: {"MAX_DEPTH": 5, "MAX_SUMMED": 40},
    tau: {"MOST_SUM": 20, "MOST_EXPONENTS": 8}, volumes: {"MOST_LENGTH": 10 ** 18}, euler: {"MAX_EULER": 20},
    onerim: {"MOST_TIES": 100, "MOST_COLOURS": 10 ** 6, "MOST_GLUED": 24, "MOST_LISTED": 6},
    pieces: {"MAX_DEPTH": 3, "MOST_PIECES": 6, "MOST_NODES": 6}, borders: {"MAX_DEPTH": 4, "MOST_STEP": 20},
    desk: {"MAX_WEBS": 6, "MAX_PLEDGES": 10}, numbers: {
        "MAX_NAME": 8, "MAX_RAISED": 1000, "MAX_CHOSEN": 1000, "MAX_BERNOULLI": 60, "MAX_TEXT": 400},
    formulas: {"MAX_LETTERS": 8, "MAX_DEGREE": 60, "MAX_TERMS": 2000, "MAX_TEXT": 4000},
    webs: {"MAX_TIES": 24, "MAX_RIMS": 8}}
NAMES = {
    codes: "bandrims.bands.codes", changes: "bandrims.bands.changes", lists: "bandrims.lots.lists",
    solutions: "bandrims.sides.solutions", pairings: "bandrims.sides.pairings",
    recursion: "bandrims.tables.recursion", forms: "bandrims.tables.forms", tau: "bandrims.tops.tau",
    volumes: "bandrims.tops.volumes", threes: "bandrims.tops.threes", euler: "bandrims.signs.euler",
    onerim: "bandrims.signs.onerim", pieces: "bandrims.nodes.pieces", borders: "bandrims.wide.borders",
    rounds: "bandrims.crossing.rounds", desk: "bandrims.use.desk"}
METHODS = {
    formulas.Formula: {
        "__init__": ["letters", "terms"], "plus": ["other"], "minus": ["other"], "times": ["other"],
        "scaled": ["number"], "power": ["many"], "at": ["values"], "part": ["degree"], "coefficient": ["exponents"],
        "exchanged": ["order"], "fixed": ["place", "number"], "__len__": [], "__bool__": [], "__str__": []},
    webs.Web: {
        "__init__": ["after", "mate", "names"], "place_round": ["end"], "rim_round": ["end"], "tie_of": ["end"],
        "sides_of": ["end"], "__len__": [], "__str__": []},
    pieces.Pieces: {"__init__": ["kinds", "nodes"], "least": [], "drawn": ["number"], "__len__": [], "__str__": []},
    desk.Desk: {
        "__init__": [], "put": ["name", "web"], "twice": ["name", "one"], "draw": ["name", "end"],
        "part": ["name", "first", "second"], "take": ["name", "end"], "tie": ["name", "first", "second"],
        "flip": ["name", "end"], "drop": ["name"], "rename": ["names"], "demand": ["pledge"], "waive": ["pledge"],
        "trial": [], "during": ["call"], "twin": [], "web_named": ["name"], "__len__": [], "__str__": [], "__iter__": []},
}
CLASS_METHODS = {formulas.Formula: {"letter": ["letters", "place"]},
                 webs.Web: {"bundle": ["ties"], "crossed": ["handles"]}}
PROPERTIES = {formulas.Formula: ["letters", "terms", "degree"],
              webs.Web: ["after", "mate", "names", "size", "heads", "places", "rims", "degrees", "handles", "is_full",
                         "is_threes"],
              pieces.Pieces: ["kinds", "nodes", "points", "handles", "many", "depth", "rearrangements"],
              desk.Desk: ["labels", "lines", "pledges", "changes"]}
KEPT = {"ParseError": "spot", "InvalidNumber": "given", "UnknownName": "name", "NothingToUndo": "wanted",
        "TooMany": "limit", "Refused": "reason"}


def parameters(call):
    """The names of the parameters, all of which can be passed by position and by name."""
    found = list(inspect.signature(call).parameters.values())
    assert all([one.kind == one.POSITIONAL_OR_KEYWORD and one.default is one.empty for one in found])
    return [one.name for one in found]


class Interface(unittest.TestCase):
    def test_modules(self):
        told = ["bandrims.errors", "bandrims.base.numbers", "bandrims.base.formulas", "bandrims.bands.webs"]
        self.assertEqual([module.__name__ for module in (errors, numbers, formulas, webs)], told)
        for module, name in NAMES.items():
            self.assertEqual(module.__name__, name)

    def test_constants(self):
        for module, told in CONSTANTS.items():
            for name, number in told.items():
                self.assertEqual((type(vars(module)[name]), vars(module)[name]), (int, number))

    def test_generators(self):
        for module, calls in FUNCTIONS.items():
            for name in calls:
                told = name in GENERATORS.get(module, [])
                self.assertIs(inspect.isgeneratorfunction(getattr(module, name)), told, name)

    def test_functions(self):
        for module, calls in FUNCTIONS.items():
            for name, told in calls.items():
                call = getattr(module, name)
                self.assertTrue(inspect.isfunction(call), name)
                self.assertEqual((call.__module__, call.__name__), (module.__name__, name))
                self.assertEqual(parameters(call), told, name)

    def test_classes(self):
        self.assertEqual(formulas.Formula.__module__, "bandrims.base.formulas")
        self.assertEqual(webs.Web.__module__, "bandrims.bands.webs")
        self.assertEqual(pieces.Pieces.__module__, "bandrims.nodes.pieces")
        self.assertEqual(desk.Desk.__module__, "bandrims.use.desk")
        self.assertIn("__contains__", vars(desk.Desk))
        for kind, calls in METHODS.items():
            for name, told in calls.items():
                self.assertIn(name, vars(kind))
                self.assertEqual(parameters(vars(kind)[name])[1:], told, name)
            self.assertIn("__eq__", vars(kind))

    def test_steps_of_a_desk(self):
        for name in ("undo", "redo"):
            (one,) = list(inspect.signature(vars(desk.Desk)[name]).parameters.values())[1:]
            self.assertEqual((one.name, one.kind, one.default), ("many", one.KEYWORD_ONLY, 1))

    def test_iterated_over(self):
        # [0.2]: only where a section says so.
        for made in (formulas.Formula(1, {}), webs.Web.bundle(1), pieces.Pieces(((0, (0, 1, 2)),), ())):
            self.assertRaises(TypeError, iter, made)
        self.assertEqual(list(desk.Desk()), [])

    def test_class_methods(self):
        for kind, calls in CLASS_METHODS.items():
            for name, told in calls.items():
                self.assertIsInstance(vars(kind)[name], classmethod)
                self.assertEqual(parameters(getattr(kind, name)), told)

    def test_properties(self):
        for kind, names in PROPERTIES.items():
            for name in names:
                self.assertIsInstance(vars(kind)[name], property)

    def test_errors(self):
        for name, told in KEPT.items():
            self.assertEqual(parameters(getattr(errors, name).__init__)[1:], [told])

    def test_by_keyword(self):
        self.assertEqual(numbers.fraction(bottom=4, top=2), (1, 2))
        made = formulas.Formula(terms={(1,): 2}, letters=1)
        self.assertEqual(made.fixed(number=3, place=0).at(values=(0,)), (6, 1))
        self.assertEqual(desk.Desk().put(web=webs.Web.bundle(ties=1), name="a")[0], ())
        self.assertEqual(webs.tie_weights(name=0, web=webs.Web.bundle(ties=2)), (1, 1))
