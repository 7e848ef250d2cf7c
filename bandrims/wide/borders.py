"""Wide forms: polynomials in the squares of the lengths of borders and of a half turn."""

from bandrims.base.bounds import need_handles, need_many, need_shallow
from bandrims.base.formulas import formula_of_terms
from bandrims.base.numbers import is_number, need_number, need_within
from bandrims.base.pairs import as_pair, pair_power, pair_product, pair_quotient, whole_power
from bandrims.base.terms import add_at, tidy_terms, value_of_terms
from bandrims.errors import InvalidRims, Refused, TooMany
from bandrims.wide.wideforms import WideTable, kernel_terms, tau_terms_of

MAX_DEPTH = 4
MOST_STEP = 20

_MOST_BORDERS = 8
_CUT_DEPTH = 3
_CUT_BORDERS = 5


def wide_form(handles, many):
    """The wide form, by its recursion."""
    _need_wide(handles, many)
    return formula_of_terms(many + 1, WideTable().form(handles, many))


def wide_by_tau(handles, many):
    """The wide form, by tau numbers."""
    _need_wide(handles, many)
    return formula_of_terms(many + 1, tau_terms_of(handles, many))


def wide_value(handles, borders, square):
    """The value of the wide form for borders of these lengths and for this square of a half turn."""
    need_handles(handles)
    if not _are_borders(borders):
        raise InvalidRims("the borders are no tuple of one to eight numbers of at least 0")
    need_number(square)
    need_shallow(handles, len(borders), MAX_DEPTH)
    squares = [pair_power(as_pair(length), 2) for length in borders]
    return value_of_terms(WideTable().form(handles, len(borders)), squares + [as_pair(square)])


def kernel(step):
    """The kernel with this index."""
    need_within(step, 1, MOST_STEP)
    return formula_of_terms(2, kernel_terms(step))


def border_cut(handles, many):
    """The form of one border more, with -4 times the last letter in the place of that of the last border."""
    _need_cut(handles, many)
    return formula_of_terms(many + 1, _cut_terms(handles, many))


def border_slope(handles, many):
    """The derivative of that form by the letter of its last border, with the same in the place of this letter."""
    _need_cut(handles, many)
    return formula_of_terms(many + 1, _slope_terms(handles, many))


def closed_number(handles):
    """The number of the form without borders."""
    need_handles(handles)
    if handles < 2:
        raise Refused(("pair",))
    if handles > 2:
        raise TooMany(MAX_DEPTH)
    # This form has one term, and the slope is so many times it.
    return pair_quotient(_slope_terms(handles, 0)[(3 * handles - 3,)], (handles - 1, 1))


def _cut_terms(handles, many):
    """The terms of the first of both formulas."""
    sums = {}
    for row, pair in WideTable().form(handles, many + 1).items():
        _add_cut(sums, row, row[-2], pair)
    return tidy_terms(sums)


def _slope_terms(handles, many):
    """The terms of the second one."""
    sums = {}
    for row, pair in WideTable().form(handles, many + 1).items():
        if row[-2] > 0:
            _add_cut(sums, row, row[-2] - 1, (row[-2] * pair[0], pair[1]))
    return tidy_terms(sums)


def _add_cut(sums, row, exponent, pair):
    """Adds a term in which the last border has this exponent, -4 t being in the place of its letter."""
    factor = (whole_power(-4, exponent), 1)
    add_at(sums, row[:-2] + (row[-1] + exponent,), pair_product(pair, factor))


def _are_borders(value):
    """Whether the value is a tuple of lengths of borders, perhaps 0."""
    if not isinstance(value, tuple) or not 1 <= len(value) <= _MOST_BORDERS:
        return False
    return all([is_number(length) and as_pair(length)[0] >= 0 for length in value])


def _need_wide(handles, many):
    """Refuses what is no pair of which a wide form is told."""
    need_handles(handles)
    need_many(many)
    need_shallow(handles, many, MAX_DEPTH)


def _need_cut(handles, many):
    """Refuses what is no pair of which also the wide form of one border more is told."""
    need_handles(handles)
    need_many(many)
    need_shallow(handles, many, _CUT_DEPTH, _CUT_BORDERS)
