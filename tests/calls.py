"""Every call of the package, for tests that pass all of them the same values."""

from bandrims.bands.webs import Web, are_lengths, are_whole_lengths, is_web_data, rim_lengths, tie_weights
from bandrims.base import numbers
from bandrims.base.formulas import Formula, fitted, formula_of_text, is_symmetric, mean_of
from bandrims.nodes.pieces import Pieces
from bandrims.use.desk import Desk
from tests.kinds import CROSS, RINGS, THETA, raised, show

F = Formula(2, {(1, 0): 2, (0, 1): (1, 2), (0, 0): -3})
G = Formula(1, {(3,): (1, 7), (0,): 1})
P = Pieces(((0, (0, 1)), (1, ())), ((0, 1),))

ONE = {name: getattr(numbers, name) for name in (
    "is_integer", "is_name", "is_fraction", "is_number", "floor_of", "factorial", "odd_product", "bernoulli",
    "number_text", "number_of_text")}
ONE.update({"is_symmetric": is_symmetric, "mean_of": mean_of, "fitted": fitted, "is_web_data": is_web_data,
            "Web.bundle": Web.bundle, "Web.crossed": Web.crossed, "P.drawn": P.drawn, "P.__eq__": P.__eq__,
            "Pieces (kinds)": lambda value: Pieces(value, ((0, 0),)),
            "Pieces (nodes)": lambda value: Pieces(P.kinds, value)})
for _name in ("plus", "minus", "times", "scaled", "power", "at", "part", "coefficient", "exchanged", "__eq__"):
    ONE[f"F.{_name}"] = getattr(F, _name)
    ONE[f"G.{_name}"] = getattr(G, _name)
for _name in ("place_round", "rim_round", "tie_of", "sides_of", "__eq__"):
    ONE[f"THETA.{_name}"] = getattr(THETA, _name)
    ONE[f"CROSS.{_name}"] = getattr(CROSS, _name)


def some_desk():
    """A desk with webs, with pledges, and with changes that can be taken back and done again."""
    desk = Desk()
    desk.put("a", THETA)
    desk.put("b", CROSS)
    desk.demand(("beside", "a", 0, 1))
    desk.drop("b")
    desk.undo()
    return desk


def desk_call(word, *before):
    """A method of such a desk, as a call that shows the desk, too; what it refuses it raises."""
    def told(value):
        desk = some_desk()
        found = getattr(desk, word)(*before, value)
        return found, desk

    return told


ONE["value in desk"] = lambda value: value in some_desk()
ONE["Desk.__eq__"] = lambda value: some_desk() == value
ONE["Desk.undo"] = lambda value: some_desk().undo(many=value)
ONE["Desk.redo"] = lambda value: some_desk().redo(many=value)
for _name in ("drop", "rename", "demand", "waive", "web_named"):
    ONE[f"Desk.{_name}"] = desk_call(_name)
for _word, _before in (("put", "c"), ("twice", "c"), ("draw", "a"), ("take", "a"), ("flip", "b")):
    ONE[f"Desk.{_word}"] = desk_call(_word, _before)
for _word in ("part", "tie"):
    ONE[f"Desk.{_word}"] = desk_call(_word, "a", 0)

TWO = {name: getattr(numbers, name) for name in (
    "fraction", "added", "less", "multiplied", "divided", "compared", "power_of", "binomial")}
TWO.update({"Formula": Formula, "Formula.letter": Formula.letter, "F.fixed": F.fixed,
            "formula_of_text": formula_of_text, "are_lengths": are_lengths, "are_whole_lengths": are_whole_lengths,
            "rim_lengths": rim_lengths, "tie_weights": tie_weights,
            "Desk.put": lambda one, other: some_desk().put(one, other), "Pieces": Pieces,
            "Desk.twice": lambda one, other: some_desk().twice(one, other),
            "Desk.draw": lambda one, other: some_desk().draw(one, other),
            "Desk.take": lambda one, other: some_desk().take(one, other),
            "Desk.flip": lambda one, other: some_desk().flip(one, other),
            "Web (first two)": lambda one, other: Web(one, other, (0, 0)),
            "Web (last two)": lambda one, other: Web((0, 1), one, other)})


def outcome(call, *args):
    """The text of what a call returns or raises."""
    error = raised(call, *args)
    if error is not None:
        return f"raises {show(error)}"
    return show(call(*args))


def settled():
    """The texts of the objects that the calls above belong to."""
    return [show(one) for one in (F, G, THETA, CROSS, RINGS, P)]
