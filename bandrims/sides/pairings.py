"""Pairings of the sides of polygons, and the full webs with whole lengths that they make."""

from bandrims.bands.webs import Web, are_whole_lengths, need_web
from bandrims.base.bounds import need_handles, need_pair, need_rims
from bandrims.base.numbers import is_within, need_within
from bandrims.base.pairs import reduced
from bandrims.errors import (
    InvalidLengths, InvalidMove, InvalidOperation, InvalidPairing, Refused, TooMany)
from bandrims.sides.polygons import (
    after_of, all_pairings, ends_of_full, fault_of, first_sides, is_proper_with, names_of_sides, next_sides,
    turned_sides, way_along)

MAX_SIDES = 12
MAX_SUM = 1000

_MOST_TIES = 24


def is_pairing(rims, value):
    """Whether the value is a pairing of the sides of these polygons."""
    need_rims(rims)
    many = sum(rims)
    if not isinstance(value, tuple) or len(value) != many:
        return False
    if not all([is_within(side, 0, many - 1) for side in value]):
        return False
    return all([value[side] != side and value[value[side]] == side for side in range(many)])


def is_proper(rims, pairing):
    """Whether the pairing is proper."""
    _need_pairing(rims, pairing)
    _need_sum(sum(rims))
    return fault_of(after_of(rims, pairing), pairing) is None


def side_after(rims, side):
    """The side behind a side."""
    need_rims(rims)
    need_within(side, 0, sum(rims) - 1)
    _need_sum(sum(rims))
    return next_sides(rims)[side]


def side_web(rims, pairing):
    """The tuples after and mate of the side web."""
    _need_pairing(rims, pairing)
    _need_sum(sum(rims))
    return (after_of(rims, pairing), pairing)


def pairings(rims):
    """Each pairing of these polygons, ascending, one by one."""
    need_rims(rims)
    _need_few_sides(rims)
    many = sum(rims)
    for pairing in all_pairings(many):
        yield pairing


def web_of_pairing(rims, pairing):
    """The full web that a proper pairing makes, and its lengths."""
    _need_pairing(rims, pairing)
    _need_sum(sum(rims))
    after = after_of(rims, pairing)
    fault = fault_of(after, pairing)
    if fault is not None:
        raise Refused((fault,))
    ends = ends_of_full(after)
    if len(ends) > 2 * _MOST_TIES:
        raise TooMany(_MOST_TIES)
    return _full_web(after, pairing, ends, names_of_sides(rims))


def pairing_of_web(web, lengths):
    """The proper pairing that a full web with whole lengths makes."""
    need_web(web)
    if not are_whole_lengths(web, lengths):
        raise InvalidLengths("the lengths are no tuple of one integer of at least 1 for each tie")
    if not web.is_full:
        raise InvalidOperation("a place of the web has less than three ends")
    _need_sum(2 * sum(lengths))
    length_of = [lengths[web.tie_of(end)] for end in range(len(web.mate))]
    first_of = first_sides(web.rims, length_of)
    found = [0] * (2 * sum(lengths))
    for end, length in enumerate(length_of):
        last = first_of[web.mate[end]] + length - 1
        for k in range(length):
            found[first_of[end] + k] = last - k
    return tuple(found)


def turned_pairing(rims, pairing, steps):
    """The pairing to which a turning of the polygons leads this one."""
    _need_pairing(rims, pairing)
    if not _are_steps(rims, steps):
        raise InvalidMove("the steps are no tuple of one integer from 0 to below its length for each rim")
    _need_sum(sum(rims))
    led = turned_sides(rims, steps)
    found = [0] * len(pairing)
    for side, partner in enumerate(pairing):
        found[led[side]] = led[partner]
    return tuple(found)


def count_by_pairings(handles, rims):
    """The count of these lengths, by walking through all pairings."""
    need_handles(handles)
    need_rims(rims)
    need_pair(handles, len(rims))
    _need_few_sides(rims)
    behind = next_sides(rims)
    many = sum(rims)
    places = 2 - 2 * handles - len(rims) + many // 2
    found = 0
    for pairing in all_pairings(many):
        if is_proper_with(behind, pairing, places):
            found = found + 1
    return reduced(found, _product(rims))


def _full_web(after, pairing, ends, name_of):
    """The full web with these sides as its ends, and its lengths."""
    numbers = {end: k for k, end in enumerate(ends)}
    ways = [way_along(after, pairing, end) for end in ends]
    mate = tuple([numbers[far] for far, _ in ways])
    step = tuple([numbers[after[end]] for end in ends])
    web = Web(step, mate, tuple([name_of[end] for end in ends]))
    return (web, tuple([ways[head][1] for head in web.heads]))


def _need_pairing(rims, pairing):
    """Refuses what is no lengths of rims with a pairing of them."""
    if not is_pairing(rims, pairing):
        raise InvalidPairing("this is no pairing of the sides of the rims")


def _need_sum(many):
    """Refuses too many sides for a web."""
    if many > MAX_SUM:
        raise TooMany(MAX_SUM)


def _need_few_sides(rims):
    """Refuses too many sides for walking through all pairings."""
    if sum(rims) > MAX_SIDES:
        raise TooMany(MAX_SIDES)


def _are_steps(rims, value):
    """Whether the value tells for each rim a turning by fewer steps than it has sides."""
    if not isinstance(value, tuple) or len(value) != len(rims):
        return False
    return all([is_within(step, 0, length - 1) for step, length in zip(value, rims)])


def _product(rims):
    """The product of all lengths."""
    found = 1
    for length in rims:
        found = found * length
    return found
