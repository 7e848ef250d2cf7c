"""Euler numbers, which are sums over all full webs of a pair with signs."""

from math import factorial

from bandrims.bands.numbering import columns_of, symmetry_number_of
from bandrims.base.bounds import need_handles, need_listed, need_many, need_shallow
from bandrims.base.numbers import bernoulli, need_within
from bandrims.base.pairs import pair_total, reduced
from bandrims.errors import Refused
from bandrims.lots.growing import full_codes
from bandrims.signs.onerim import full_gluings
from bandrims.tables.marks import MarkTable

MAX_EULER = 20

_MOST_SUMMED = 6


def euler_number(handles, many):
    """The Euler number, by its closed formula."""
    need_within(handles, 0, MAX_EULER)
    need_within(many, 0, MAX_EULER)
    if 2 * handles - 2 + many < 1:
        raise Refused(("pair",))
    sign = 1 - 2 * (many % 2)
    if handles == 0:
        return (-sign * factorial(many - 3), 1)
    top, bottom = bernoulli(2 * handles)
    size = factorial(2 * handles - 3 + many) * top
    return reduced(sign * size, factorial(2 * handles - 2) * bottom * 2 * handles)


def tie_sums(handles, many):
    """The sums of 1 over the number of symmetries over all full webs of a pair, by their numbers of ties."""
    _need_list(handles, many)
    return _sums_by_ties(handles, many)


def signed_sum(handles, many):
    """The sum of all these with a sign for each number of ties, by the webs themselves."""
    _need_list(handles, many)
    sums = _sums_by_ties(handles, many)
    return pair_total([_signed(sums[ties], ties - many) for ties in sums])


def zero_value(handles, many):
    """The value of the form without odd lengths at all lengths 0."""
    need_handles(handles)
    need_many(many)
    need_shallow(handles, many)
    return MarkTable().number(handles, ((0, 0),) * many)


def one_rim_sum(handles):
    """The Euler number for one rim, by numbers of gluings."""
    need_within(handles, 1, _MOST_SUMMED)
    found = []
    for ties in range(2 * handles, 6 * handles - 2):
        found.append(_signed((full_gluings(handles, ties), 2 * ties), ties - 1))
    return pair_total(found)


def _signed(pair, number):
    """The pair if the number is even, otherwise its opposite."""
    return pair if number % 2 == 0 else (-pair[0], pair[1])


def _sums_by_ties(handles, many):
    """The dict from numbers of ties, ascending, to sums of 1 over the number of symmetries."""
    lots = {}
    for code in full_codes(handles, many):
        after, mate, names = columns_of(code)
        lots.setdefault(len(code) // 2, []).append((1, symmetry_number_of(after, mate, names)))
    return {ties: pair_total(lots[ties]) for ties in sorted(lots)}


def _need_list(handles, many):
    """Refuses what is no pair of which a list is told."""
    need_handles(handles)
    need_many(many)
    need_listed(handles, many)
