"""Sums over webs of threes, which are sums of tau numbers."""

from bandrims.bands.numbering import columns_of, symmetry_number_of
from bandrims.bands.webs import need_web
from bandrims.base.bounds import depth_of, need_handles, need_listed, need_many, need_shallow
from bandrims.base.numbers import is_number, odd_product
from bandrims.base.pairs import as_pair, pair_power, pair_product, pair_sum, pair_total, reduced
from bandrims.base.rows import solved
from bandrims.base.terms import arrangements, exponents_up_to
from bandrims.errors import InvalidOperation
from bandrims.lots.growing import threes_codes
from bandrims.sides.fillings import sides_of_ties
from bandrims.tops.tau import need_exponents
from bandrims.tops.taus import TauTable, handles_of_sum


def web_product(web, values):
    """The product of the web for these values."""
    need_web(web)
    _need_values(values, len(web.rims))
    return _product(sides_of_ties(web.heads, web.mate, web.names), _pairs_of(values))


def threes_terms(handles, many, values):
    """The products of all webs of threes of the list, divided by their numbers of symmetries."""
    _need_listed_values(handles, many, values)
    return tuple(_terms(handles, many, _pairs_of(values)))


def threes_sum(handles, many, values):
    """The threes sum."""
    _need_listed_values(handles, many, values)
    return _total(handles, many, _pairs_of(values))


def tau_sum(handles, many, values):
    """The tau sum."""
    need_handles(handles)
    need_many(many)
    _need_values(values, many)
    need_shallow(handles, many)
    pairs = _pairs_of(values)
    table = TauTable()
    depth = depth_of(handles, many)
    rows = [row for row in exponents_up_to(many, depth) if sum(row) == depth]
    return pair_total([pair_product(table.number(row), _factor(row, pairs)) for row in rows])


def tau_by_threes(exponents):
    """The tau number, by as many threes sums as the pair has tau numbers."""
    need_exponents(exponents)
    many = len(exponents)
    handles = handles_of_sum(many, sum(exponents))
    if handles is None:
        return (0, 1)
    need_listed(handles, many)
    depth = depth_of(handles, many)
    # The tau numbers do not hang on the sequence of the exponents.
    lots = [row for row in exponents_up_to(many, depth) if sum(row) == depth and tuple(sorted(row)) == row]
    table = []
    for k in range(len(lots)):
        pairs = [(1, 1)] * (many - 1) + [(k + 1, 1)]
        table.append([_lot_factor(lot, pairs) for lot in lots] + [_total(handles, many, pairs)])
    return solved(table)[lots.index(tuple(sorted(exponents)))]


def _lot_factor(least, pairs):
    """By what a tau sum multiplies the tau number of these exponents in all their sequences."""
    return pair_total([_factor(row, pairs) for row in arrangements(least)])


def _factor(row, pairs):
    """By what a tau sum multiplies the tau number of these exponents in this sequence."""
    top = 1
    bottom = 1
    for exponent, pair in zip(row, pairs):
        high, low = pair_power(pair, 2 * exponent + 1)
        top = top * odd_product(2 * exponent - 1) * low
        bottom = bottom * high
    return reduced(top, bottom)


def _total(handles, many, pairs):
    """The threes sum for values that are fractions."""
    top, bottom = pair_total(_terms(handles, many, pairs))
    return reduced(top << (2 * handles - 2 + many), bottom)


def _terms(handles, many, pairs):
    """The list of the products of the webs of threes, divided by their numbers of symmetries."""
    found = []
    for code in threes_codes(handles, many):
        after, mate, names = columns_of(code)
        heads = [end for end in range(len(mate)) if end < mate[end]]
        top, bottom = _product(sides_of_ties(heads, mate, names), pairs)
        found.append(reduced(top, bottom * symmetry_number_of(after, mate, names)))
    return found


def _product(sides, pairs):
    """The product, over ties with these rims on their sides, of 1 divided by the sum of both values."""
    found = (1, 1)
    for one, other in sides:
        found = pair_product(found, pair_sum(pairs[one], pairs[other]))
    return reduced(found[1], found[0])


def _pairs_of(values):
    """The list of the fractions that numbers are."""
    return [as_pair(value) for value in values]


def _need_values(values, many):
    """Refuses what is no tuple of so many numbers above 0."""
    right = isinstance(values, tuple) and len(values) == many
    if not right or not all([is_number(value) and as_pair(value)[0] > 0 for value in values]):
        raise InvalidOperation("the values are no tuple of one number above 0 for each rim")


def _need_listed_values(handles, many, values):
    """Refuses what is no pair of lists with values of its rims."""
    need_handles(handles)
    need_many(many)
    _need_values(values, many)
    need_listed(handles, many)
