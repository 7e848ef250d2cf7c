"""Whole lengths of one web for told lengths of its rims, and how often they come."""

from bandrims.bands.codes import is_likeness, symmetries
from bandrims.bands.numbering import columns_of, symmetry_number_of
from bandrims.bands.webs import are_whole_lengths, need_web
from bandrims.base.bounds import is_row, need_handles, need_listed, need_rims
from bandrims.base.pairs import pair_total, reduced
from bandrims.errors import InvalidLengths, InvalidOperation, InvalidRims, TooMany
from bandrims.lots.growing import full_codes
from bandrims.sides.fillings import filling_number, fillings, sides_of_ties

MAX_SUM = 30


def solution_number(web, rims):
    """How many solutions there are."""
    _need_web_rims(web, rims)
    return filling_number(_sides_of(web), rims)


def web_count(web, rims):
    """The number of solutions, divided by that of the symmetries."""
    _need_web_rims(web, rims)
    return reduced(filling_number(_sides_of(web), rims), symmetry_number_of(web.after, web.mate, web.names))


def solutions(web, rims):
    """Each solution, ascending, one by one."""
    _need_web_rims(web, rims)
    sides = _sides_of(web)
    for lengths in fillings(sides, rims):
        yield lengths


def a_solution(web, rims):
    """The least solution, None if there is none."""
    _need_web_rims(web, rims)
    sides = _sides_of(web)
    for lengths in fillings(sides, rims):
        return lengths
    return None


def is_solution(web, rims, value):
    """Whether the value is a solution."""
    _need_web_rims(web, rims)
    return are_whole_lengths(web, value) and whole_rim_lengths(web, value) == rims


def led_lengths(web, lengths, move):
    """The lengths to which a symmetry leads whole lengths."""
    _need_whole_lengths(web, lengths)
    if not is_likeness(web, web, move):
        raise InvalidOperation("the move is no symmetry of the web")
    return _led(lengths, _tie_order(web, move))


def keeping_number(web, lengths):
    """How many symmetries keep whole lengths."""
    _need_whole_lengths(web, lengths)
    return [_led(lengths, _tie_order(web, move)) for move in symmetries(web)].count(lengths)


def least_solutions(web, rims):
    """The least solution of each lot of alike ones, and how many symmetries keep it."""
    _need_web_rims(web, rims)
    orders = [_tie_order(web, move) for move in symmetries(web)]
    sides = _sides_of(web)
    found = []
    for lengths in fillings(sides, rims):
        told = [_led(lengths, order) for order in orders]
        if min(told) == lengths:
            found.append((lengths, told.count(lengths)))
    return tuple(found)


def count_by_lists(handles, rims):
    """The sum of the web counts of all webs of the list of the pair."""
    need_handles(handles)
    need_rims(rims)
    need_listed(handles, len(rims))
    _need_sum(rims)
    found = []
    for code in full_codes(handles, len(rims)):
        after, mate, names = columns_of(code)
        heads = [end for end in range(len(mate)) if end < mate[end]]
        many = filling_number(sides_of_ties(heads, mate, names), rims)
        if many > 0:
            found.append((many, symmetry_number_of(after, mate, names)))
    return pair_total(found)


def whole_rim_lengths(web, lengths):
    """The lengths of all rims, integers, for whole lengths of the ties."""
    told = [0] * len(web.rims)
    for pair, length in zip(_sides_of(web), lengths):
        for name in pair:
            told[name] = told[name] + length
    return tuple(told)


def _sides_of(web):
    """The list of the pairs of names on both sides of all ties."""
    return sides_of_ties(web.heads, web.mate, web.names)


def _need_web_rims(web, rims):
    """Refuses what is no web with lengths of its rims, and too long ones."""
    need_web(web)
    if not is_row(rims, 1) or len(rims) != len(web.rims):
        raise InvalidRims("the rims are no tuple of one integer of at least 1 for each rim")
    _need_sum(rims)


def _need_sum(rims):
    """Refuses too long lengths of rims."""
    if sum(rims) > MAX_SUM:
        raise TooMany(MAX_SUM)


def _need_whole_lengths(web, lengths):
    """Refuses what is no web with whole lengths of it."""
    need_web(web)
    if not are_whole_lengths(web, lengths):
        raise InvalidLengths("the lengths are no tuple of one integer of at least 1 for each tie")


def _tie_order(web, move):
    """The list that has for each tie the index of the tie to which a symmetry leads it."""
    index_of = {}
    for k, head in enumerate(web.heads):
        index_of[head] = k
        index_of[web.mate[head]] = k
    return [index_of[move[head]] for head in web.heads]


def _led(lengths, order):
    """The lengths that give to the tie order[k] what these give to the tie k."""
    found = [0] * len(lengths)
    for k, length in zip(order, lengths):
        found[k] = length
    return tuple(found)
