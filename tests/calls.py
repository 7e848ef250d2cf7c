"""Every call of the package, for tests that pass all of them the same values."""

from bandrims.bands.webs import Web, are_lengths, are_whole_lengths, is_web_data, rim_lengths, tie_weights
from bandrims.base import numbers
from bandrims.base.formulas import Formula, fitted, formula_of_text, is_symmetric, mean_of
from tests.kinds import CROSS, RINGS, THETA, raised, show

F = Formula(2, {(1, 0): 2, (0, 1): (1, 2), (0, 0): -3})
G = Formula(1, {(3,): (1, 7), (0,): 1})

ONE = {name: getattr(numbers, name) for name in (
    "is_integer", "is_name", "is_fraction", "is_number", "floor_of", "factorial", "odd_product", "bernoulli",
    "number_text", "number_of_text")}
ONE.update({"is_symmetric": is_symmetric, "mean_of": mean_of, "fitted": fitted, "is_web_data": is_web_data,
            "Web.bundle": Web.bundle, "Web.crossed": Web.crossed})
for _name in ("plus", "minus", "times", "scaled", "power", "at", "part", "coefficient", "exchanged", "__eq__"):
    ONE[f"F.{_name}"] = getattr(F, _name)
    ONE[f"G.{_name}"] = getattr(G, _name)
for _name in ("place_round", "rim_round", "tie_of", "sides_of", "__eq__"):
    ONE[f"THETA.{_name}"] = getattr(THETA, _name)
    ONE[f"CROSS.{_name}"] = getattr(CROSS, _name)

TWO = {name: getattr(numbers, name) for name in (
    "fraction", "added", "less", "multiplied", "divided", "compared", "power_of", "binomial")}
TWO.update({"Formula": Formula, "Formula.letter": Formula.letter, "F.fixed": F.fixed,
            "formula_of_text": formula_of_text, "are_lengths": are_lengths, "are_whole_lengths": are_whole_lengths,
            "rim_lengths": rim_lengths, "tie_weights": tie_weights,
            "Web (first two)": lambda one, other: Web(one, other, (0, 0)),
            "Web (last two)": lambda one, other: Web((0, 1), one, other)})


def outcome(call, *args):
    """The text of what a call returns or raises."""
    error = raised(call, *args)
    if error is not None:
        return f"raises {show(error)}"
    return show(call(*args))


def settled():
    """The texts of the objects that the calls above belong to."""
    return [show(one) for one in (F, G, THETA, CROSS, RINGS)]
