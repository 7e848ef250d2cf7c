"""What each function of stages 4 to 19 takes, for tests that pass values of every kind to all of them.

A parameter is told by a right value, by what tells right values from wrong ones while all parameters
ahead have their right values, and by the error for wrong ones with the attribute that keeps the value.
"""

from collections import namedtuple
from fractions import Fraction
from itertools import islice

from bandrims.bands import changes, codes
from bandrims.bands.webs import Web
from bandrims.crossing import rounds
from bandrims.errors import (
    InvalidLengths, InvalidMove, InvalidNumber, InvalidOperation, InvalidPairing, InvalidPieces, InvalidRims, InvalidWeb)
from bandrims.lots import lists
from bandrims.nodes import pieces
from bandrims.nodes.pieces import Pieces
from bandrims.sides import pairings, solutions
from bandrims.signs import euler, onerim
from bandrims.tables import forms, recursion
from bandrims.tops import tau, threes, volumes
from bandrims.use import desk
from bandrims.wide import borders
from tests.kinds import CROSS, THETA, between, is_either, is_short, is_whole, row_of

Parameter = namedtuple("Parameter", ["sample", "right", "error", "kept"])


def is_order_of(many):
    """Tells tuples that have each integer from 0 to below many once."""
    return lambda value: row_of(many, is_short)(value) and sorted(value) == list(range(many))


def is_row(low, most=8):
    """Tells tuples of one integer or more, none of them below low."""
    return lambda value: (type(value) is tuple and 1 <= len(value) <= most
                          and all([is_short(item) and item >= low for item in value]))


def row_from(low, high, most=8):
    """Tells tuples of one integer or more, all of them within bounds."""
    return lambda value: is_row(low, most)(value) and max(value) <= high


def is_length_up_to(high):
    """Tells tuples of 1 to 8 numbers from 0 to a bound."""
    return lambda value: (type(value) is tuple and 1 <= len(value) <= 8
                          and all([is_either(item) and 0 <= as_fraction(item) <= high for item in value]))


def is_numbers_above_0(many):
    """Tells tuples of so many numbers above 0."""
    return lambda value: row_of(many, is_either)(value) and all([as_fraction(item) > 0 for item in value])


def as_fraction(number):
    """The number as one of Python's own."""
    return Fraction(*number) if type(number) is tuple else Fraction(number)


def is_even_to(many):
    """Tells even integers from 0 to many."""
    return lambda value: between(0, many)(value) and value % 2 == 0


def first_few(generator):
    """The call of a generator, as a call that returns its first results."""
    return lambda *args: tuple(islice(generator(*args), 20))


def never(_):
    """No value is right."""
    return False


def any_value(_):
    """Each value is judged."""
    return True


def web(sample=THETA):
    return Parameter(sample, lambda value: isinstance(value, Web), InvalidWeb, None)


def end(sample=0, many=6):
    return Parameter(sample, between(0, many - 1), InvalidNumber, "given")


def order(sample):
    return Parameter(sample, is_order_of(len(sample)), InvalidOperation, None)


def rims(sample, low=1):
    return Parameter(sample, is_row(low), InvalidRims, None)


def rims_of_web(sample):
    return Parameter(sample, lambda value: is_row(1)(value) and len(value) == len(sample), InvalidRims, None)


def whole_lengths(sample):
    return Parameter(sample, lambda value: is_row(1, 24)(value) and len(value) == len(sample), InvalidLengths, None)


JUDGED = Parameter(None, any_value, None, None)
HANDLES = Parameter(0, lambda value: is_short(value) and value >= 0, InvalidNumber, "given")
MANY = Parameter(3, between(1, 8), InvalidNumber, "given")
TIES = Parameter(2, between(1, 24), InvalidNumber, "given")
ODD = Parameter(2, is_even_to(3), InvalidNumber, "given")
CODE = Parameter(codes.least_code(CROSS), never, InvalidOperation, None)
PAIRING = Parameter((2, 3, 0, 1), never, InvalidPairing, None)
EXPONENTS = Parameter((1, 1), is_row(0), InvalidOperation, None)
STEPS = Parameter((1,), row_of(1, between(0, 3)), InvalidMove, None)
MOVE = Parameter((2, 3, 1, 0), never, InvalidOperation, None)
NUMBER = Parameter((1, 2), is_either, InvalidNumber, "given")
VALUES = Parameter((1, (1, 2), 3), is_numbers_above_0(3), InvalidOperation, None)
SIGNED = Parameter(2, between(0, 20), InvalidNumber, "given")
GLUED = Parameter(3, between(0, 100), InvalidNumber, "given")
ONE_HANDLE = Parameter(1, lambda value: is_short(value) and value >= 1, InvalidNumber, "given")
PIECES = Parameter(Pieces(((0, (0, 1)), (1, ())), ((0, 1),)), lambda value: isinstance(value, Pieces), InvalidPieces, None)
JOINED = Parameter((0, 2, 4), is_row(0), InvalidRims, None)
BORDERS = Parameter((0, 1, (1, 2)), is_length_up_to(10 ** 200), InvalidRims, None)
TREE = Parameter((0,), lambda value: row_of(1, is_short)(value) and value[0] in (0, 2, 4), InvalidOperation, None)
ROW = Parameter((1, -1, 0), lambda value: row_of(3, is_whole)(value) and sum(value) == 0, InvalidOperation, None)
GLUING = Parameter((2, 3, 0, 1), lambda value: value == (1, 0) and is_short(value[0]), InvalidPairing, None)

SPECS = {
    codes.code_from: [web(), end()],
    codes.least_code: [web()],
    codes.is_code: [JUDGED],
    codes.web_of_code: [CODE],
    codes.are_alike: [web(), web(CROSS)],
    codes.likeness: [web(), web(CROSS)],
    codes.is_likeness: [web(), web(), JUDGED],
    codes.symmetries: [web()],
    codes.symmetry_number: [web()],
    codes.renamed: [web(), order((2, 0, 1))],
    codes.shuffled: [web(), order((2, 0, 1, 4, 5, 3))],
    codes.mirrored: [web()],
    codes.rim_orders: [web()],
    codes.has_turning: [web()],
    changes.drawn_together: [web(), end()],
    changes.parted: [web(), end(), end(2)],
    changes.taken_out: [web(), end()],
    changes.put_in: [web(), end(), end(5)],
    changes.is_flip: [web(), JUDGED],
    changes.flipped: [web(), end()],
    changes.turned_over: [web()],
    changes.flips_between: [web(), web()],
    changes.is_flips: [web(), web(), JUDGED],
    lists.full_webs: [HANDLES, MANY],
    lists.threes_webs: [HANDLES, MANY],
    lists.each_full: [HANDLES, MANY],
    lists.place_in_list: [web()],
    lists.web_numbers: [HANDLES, MANY],
    lists.degree_numbers: [HANDLES, MANY],
    lists.web_sum: [HANDLES, MANY, TIES],
    lists.drawn_places: [web()],
    solutions.solution_number: [web(), rims_of_web((3, 4, 5))],
    solutions.web_count: [web(), rims_of_web((3, 4, 5))],
    solutions.solutions: [web(), rims_of_web((3, 4, 5))],
    solutions.a_solution: [web(), rims_of_web((3, 4, 5))],
    solutions.is_solution: [web(), rims_of_web((3, 4, 5)), JUDGED],
    solutions.led_lengths: [web(CROSS), whole_lengths((1, 3)), MOVE],
    solutions.keeping_number: [web(CROSS), whole_lengths((1, 3))],
    solutions.least_solutions: [web(), rims_of_web((3, 4, 5))],
    solutions.count_by_lists: [HANDLES, rims((3, 4, 5))],
    pairings.is_pairing: [rims((4,)), JUDGED],
    pairings.is_proper: [rims((4,)), PAIRING],
    pairings.side_after: [rims((4,)), end(0, 4)],
    pairings.side_web: [rims((4,)), PAIRING],
    pairings.pairings: [rims((4,))],
    pairings.web_of_pairing: [rims((4,)), PAIRING],
    pairings.pairing_of_web: [web(), whole_lengths((1, 2, 3))],
    pairings.turned_pairing: [rims((4,)), PAIRING, STEPS],
    pairings.count_by_pairings: [HANDLES, rims((2, 2, 2))],
    recursion.count_by_rims: [HANDLES, rims((1, 1, 2))],
    recursion.is_zero_count: [HANDLES, rims((1, 1, 2))],
    recursion.least_sum: [HANDLES, MANY],
    recursion.rim_choices: [HANDLES, rims((1, 1, 2, 2))],
    forms.count_form: [HANDLES, MANY, ODD],
    forms.is_count_form: [HANDLES, MANY, ODD, JUDGED],
    forms.count_forms: [HANDLES, MANY],
    forms.form_top: [HANDLES, MANY],
    forms.count: [HANDLES, rims((1, 1, 2))],
    forms.extended_count: [HANDLES, rims((0, 1, 1), 0)],
    forms.sum_below: [HANDLES, Parameter((3, 4, 5), lambda value: is_row(1)(value) and max(value) <= 40, InvalidRims,
                                         None)],
    tau.handles_of: [EXPONENTS],
    tau.tau_number: [EXPONENTS],
    tau.tau_terms: [EXPONENTS],
    tau.tau_row: [HANDLES, MANY],
    tau.tau_by_rules: [EXPONENTS],
    volumes.volume_form: [HANDLES, MANY],
    volumes.volume_number: [HANDLES, Parameter((0, 0, 0), row_from(0, 60), InvalidOperation, None)],
    volumes.volume: [HANDLES, Parameter((0, 1, (1, 2)), is_length_up_to(10 ** 18), InvalidRims, None)],
    volumes.zero_rim_form: [HANDLES, MANY],
    volumes.short_rim_form: [HANDLES, MANY],
    volumes.grown: [HANDLES, MANY, NUMBER],
    threes.web_product: [web(), VALUES],
    threes.threes_terms: [HANDLES, MANY, VALUES],
    threes.threes_sum: [HANDLES, MANY, VALUES],
    threes.tau_sum: [HANDLES, MANY, VALUES],
    threes.tau_by_threes: [EXPONENTS],
    euler.euler_number: [SIGNED, SIGNED],
    euler.tie_sums: [HANDLES, MANY],
    euler.signed_sum: [HANDLES, MANY],
    euler.zero_value: [HANDLES, MANY],
    euler.one_rim_sum: [Parameter(1, between(1, 6), InvalidNumber, "given")],
    onerim.gluings: [HANDLES, GLUED],
    onerim.gluing_row: [GLUED],
    onerim.gluing_value: [GLUED, Parameter(2, between(0, 10 ** 6), InvalidNumber, "given")],
    onerim.bare_gluings: [ONE_HANDLE, GLUED],
    onerim.full_gluings: [ONE_HANDLE, GLUED],
    onerim.is_gluing: [JUDGED],
    onerim.gluing_pairings: [Parameter(2, between(1, 6), InvalidNumber, "given")],
    onerim.web_of_gluing: [GLUING],
    onerim.gluing_of_web: [web(CROSS), end(0, 4)],
    onerim.gluing_handles: [GLUING],
    onerim.turns_of: [GLUING],
    onerim.turned: [GLUING, end(0, 4)],
    pieces.are_alike_pieces: [PIECES, JUDGED],
    pieces.all_joined: [HANDLES, MANY],
    pieces.node_numbers: [HANDLES, MANY],
    pieces.joined_terms: [HANDLES, JOINED],
    pieces.joined_count: [HANDLES, JOINED],
    pieces.joined_form: [HANDLES, MANY, ODD],
    pieces.closed_euler: [HANDLES, MANY],
    borders.wide_form: [HANDLES, MANY],
    borders.wide_by_tau: [HANDLES, MANY],
    borders.wide_value: [HANDLES, BORDERS, NUMBER],
    borders.kernel: [Parameter(3, between(1, 20), InvalidNumber, "given")],
    borders.border_cut: [HANDLES, MANY],
    borders.border_slope: [HANDLES, MANY],
    borders.closed_number: [Parameter(2, HANDLES.right, InvalidNumber, "given")],
    rounds.is_closed: [web(), JUDGED],
    rounds.is_tree: [web(), JUDGED],
    rounds.tree_ties: [web()],
    rounds.round_of: [web(), TREE, end(2)],
    rounds.tree_rounds: [web(), TREE],
    rounds.rim_row: [web(), end(0, 3)],
    rounds.rim_weights: [web(), ROW],
    rounds.crossing_number: [web(), ROW, ROW],
    rounds.crossing_table: [web(), TREE],
    rounds.mixed_table: [web(), TREE],
    rounds.is_tight: [web(), JUDGED],
    rounds.tight_number: [web()],
    rounds.is_bridge: [web(), end()],
    desk.is_pledge: [JUDGED],
}
GENERATORS = (lists.each_full, solutions.solutions, pairings.pairings, onerim.gluing_pairings)


def plain(call):
    """The call itself, or a call that returns the first results of a generator."""
    return first_few(call) if call in GENERATORS else call


def spec_of(call):
    """The pair of a call that returns and of its parameters; rim_sum is called with a call of its own."""
    return plain(call), SPECS[call]


def rim_sum_of_ones(handles, lengths):
    """rim_sum with 1 in the place of each count."""
    return recursion.rim_sum(lambda h, c: 1, handles, lengths)


ALL = {call.__name__: spec_of(call) for call in SPECS}
ALL["rim_sum"] = (rim_sum_of_ones, SPECS[recursion.rim_choices])
