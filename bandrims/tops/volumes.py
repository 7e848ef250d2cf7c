"""Volumes: the greatest parts of all forms of a pair, told by tau numbers."""

from math import factorial

from bandrims.base.bounds import depth_of, is_row, need_handles, need_many, need_shallow
from bandrims.base.formulas import formula_of_terms
from bandrims.base.numbers import is_number, need_number
from bandrims.base.pairs import as_pair, pair_power, pair_product, reduced
from bandrims.base.terms import add_at, exponents_up_to, scaled_terms, tidy_terms, value_of_terms
from bandrims.errors import InvalidOperation, InvalidRims
from bandrims.tops.taus import TauTable

MOST_LENGTH = 10 ** 18

_MOST_RIMS = 8
_MOST_EXPONENT = 60


def volume_form(handles, many):
    """The volume form of the pair."""
    _need_volume(handles, many)
    return formula_of_terms(many, _volume_terms(handles, many))


def volume_number(handles, exponents):
    """The number of the term with these exponents."""
    need_handles(handles)
    if not is_row(exponents, 0) or max(exponents) > _MOST_EXPONENT:
        raise InvalidOperation("the exponents are no tuple of 1 to 8 integers from 0 to 60")
    need_shallow(handles, len(exponents))
    return _term_number(TauTable(), handles, exponents)


def volume(handles, lengths):
    """The volume for these lengths of the rims."""
    need_handles(handles)
    if not _are_lengths(lengths):
        raise InvalidRims("the lengths are no tuple of 1 to 8 numbers from 0 to MOST_LENGTH")
    need_shallow(handles, len(lengths))
    squares = [pair_power(as_pair(length), 2) for length in lengths]
    return value_of_terms(_volume_terms(handles, len(lengths)), squares)


def zero_rim_form(handles, many):
    """The volume form of one rim more, of the length 0, made of the volume form of the pair."""
    _need_volume(handles, many)
    sums = {}
    for row, (top, bottom) in _volume_terms(handles, many).items():
        for k, exponent in enumerate(row):
            raised = row[:k] + (exponent + 1,) + row[k + 1:]
            add_at(sums, raised, (top, 4 * bottom * (exponent + 1)))
    return formula_of_terms(many, tidy_terms(sums))


def short_rim_form(handles, many):
    """What the volume form of one rim more has once with its last letter, made of the volume form of the pair."""
    _need_volume(handles, many)
    terms = scaled_terms(_volume_terms(handles, many), reduced(2 * handles - 2 + many, 4))
    return formula_of_terms(many, terms)


def grown(handles, many, number):
    """The formula that tells the volumes for so many times the lengths."""
    need_handles(handles)
    need_many(many)
    need_number(number)
    need_shallow(handles, many)
    factor = pair_power(as_pair(number), 2 * depth_of(handles, many))
    return formula_of_terms(many, scaled_terms(_volume_terms(handles, many), factor))


def _volume_terms(handles, many):
    """The terms of the volume form."""
    table = TauTable()
    rows = exponents_up_to(many, depth_of(handles, many))
    return tidy_terms({row: _term_number(table, handles, row) for row in rows})


def _term_number(table, handles, row):
    """The number of a term; the table has the tau numbers that are known already."""
    many = len(row)
    if sum(row) != depth_of(handles, many):
        return (0, 1)
    bottom = 1 << (5 * handles - 6 + 2 * many)
    for exponent in row:
        bottom = bottom * factorial(exponent)
    return pair_product(table.number(row), (1, bottom))


def _are_lengths(value):
    """Whether the value is a tuple of lengths of rims, perhaps 0."""
    if not isinstance(value, tuple) or not 1 <= len(value) <= _MOST_RIMS:
        return False
    return all([is_number(length) and _is_within_most(as_pair(length)) for length in value])


def _is_within_most(pair):
    """Whether the fraction is from 0 to MOST_LENGTH."""
    return 0 <= pair[0] <= MOST_LENGTH * pair[1]


def _need_volume(handles, many):
    """Refuses what is no pair of polynomials."""
    need_handles(handles)
    need_many(many)
    need_shallow(handles, many)
