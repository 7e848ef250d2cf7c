"""The polynomials that tell all counts of a pair, one for each number of odd lengths."""

from bandrims.base.bounds import (
    is_row, depth_of, is_odd_number, need_handles, need_many, need_rims, need_shallow)
from bandrims.base.formulas import formula_of_terms
from bandrims.base.pairs import pair_total
from bandrims.errors import InvalidNumber, InvalidRims
from bandrims.tables.values import FormTable

MAX_DEPTH = 5
MAX_SUMMED = 40


def count_form(handles, many, odd):
    """The form for so many odd lengths, put first."""
    _need_form(handles, many, odd)
    return formula_of_terms(many, FormTable().form(handles, many, odd))


def is_count_form(handles, many, odd, value):
    """Whether the value is the form for so many odd lengths."""
    return count_form(handles, many, odd) == value


def count_forms(handles, many):
    """The forms for 0, 2, .. odd lengths."""
    _need_shallow_pair(handles, many)
    table = FormTable()
    return tuple([formula_of_terms(many, table.form(handles, many, odd)) for odd in range(0, many + 1, 2)])


def form_top(handles, many):
    """The part of the greatest degree, which all forms of the pair have."""
    return count_form(handles, many, 0).part(depth_of(handles, many))


def count(handles, rims):
    """The count of these lengths."""
    need_handles(handles)
    need_rims(rims)
    need_shallow(handles, len(rims), MAX_DEPTH)
    return FormTable().value(handles, rims)


def extended_count(handles, rims):
    """The value of the form for these lengths, 0 among them; 0 for an odd sum."""
    need_handles(handles)
    if not is_row(rims, 0):
        raise InvalidRims("the rims are no tuple of 1 to 8 integers of at least 0")
    need_shallow(handles, len(rims), MAX_DEPTH)
    return FormTable().value(handles, rims)


def sum_below(handles, rims):
    """The sum of k times the count with k in the place of one length, over all lengths and lesser k."""
    need_handles(handles)
    need_rims(rims)
    if max(rims) > MAX_SUMMED:
        raise InvalidRims("a length of a rim is above 40")
    need_shallow(handles, len(rims), MAX_DEPTH)
    table = FormTable()
    found = []
    for j, length in enumerate(rims):
        # For all other k the sum of the lengths is odd.
        for k in range(2 - (sum(rims) - length) % 2, length, 2):
            top, bottom = table.value(handles, rims[:j] + (k,) + rims[j + 1:])
            found.append((k * top, bottom))
    return pair_total(found)


def _need_shallow_pair(handles, many):
    """Refuses what is no pair of polynomials."""
    need_handles(handles)
    need_many(many)
    need_shallow(handles, many, MAX_DEPTH)


def _need_form(handles, many, odd):
    """Refuses what is no pair of polynomials, and what is no number of odd lengths."""
    need_handles(handles)
    need_many(many)
    if not is_odd_number(odd, many):
        raise InvalidNumber(odd)
    need_shallow(handles, many, MAX_DEPTH)
