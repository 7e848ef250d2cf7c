"""Tau numbers, which tell the greatest parts of all forms."""

from math import factorial

from bandrims.base.bounds import is_row, depth_of, need_handles, need_many, need_shallow
from bandrims.base.pairs import pair_sum, reduced, whole_power
from bandrims.base.terms import exponents_up_to
from bandrims.errors import InvalidOperation, TooMany
from bandrims.tables.steps import rest_without
from bandrims.tops.taus import TauTable, first_parts, handles_of_sum

MOST_SUM = 20
MOST_EXPONENTS = 8


def handles_of(exponents):
    """The number of handles that the exponents have, None if they have none."""
    need_exponents(exponents)
    return handles_of_sum(len(exponents), sum(exponents))


def tau_number(exponents):
    """The tau number."""
    need_exponents(exponents)
    return TauTable().number(exponents)


def tau_terms(exponents):
    """The parts of which the recursion adds up the tau number, and by what each is multiplied."""
    need_exponents(exponents)
    return tuple([(parts, factor) for parts, factor in first_parts(exponents).items()])


def tau_row(handles, many):
    """The tau numbers of all descending tuples of so many exponents whose sum is the depth."""
    need_handles(handles)
    need_many(many)
    need_shallow(handles, many)
    table = TauTable()
    depth = depth_of(handles, many)
    rows = [row for row in exponents_up_to(many, depth) if sum(row) == depth and _is_descending(row)]
    return {row: table.number(row) for row in rows}


def tau_by_rules(exponents):
    """The tau number by the rules for no handles, one exponent, 0 and 1 alone, None if they do not tell it."""
    need_exponents(exponents)
    return _by_rules(tuple(sorted(exponents)), {})


def _by_rules(exponents, known):
    """The same for ascending exponents; the dict keeps what has come up."""
    if exponents not in known:
        known[exponents] = _by_one_rule(exponents, known)
    return known[exponents]


def _by_one_rule(exponents, known):
    """The tau number of ascending exponents by the first rule that tells it, None if no rule does."""
    handles = handles_of_sum(len(exponents), sum(exponents))
    if handles is None:
        return (0, 1)
    if handles == 0:
        return _without_handles(exponents)
    if len(exponents) == 1:
        return (1, whole_power(24, handles) * factorial(handles))
    if exponents[0] == 0:
        return _by_zero(exponents[1:], known)
    if exponents[0] == 1:
        told = _by_rules(exponents[1:], known)
        return None if told is None else reduced((2 * handles - 3 + len(exponents)) * told[0], told[1])
    return None


def _without_handles(exponents):
    """The closed number for 0 handles."""
    bottom = 1
    for exponent in exponents:
        bottom = bottom * factorial(exponent)
    return reduced(factorial(len(exponents) - 3), bottom)


def _by_zero(rest, known):
    """What the rule for a 0 tells, by the rest of the exponents."""
    found = (0, 1)
    for at, exponent in enumerate(rest):
        if exponent >= 1:
            lesser = (exponent - 1,) + rest_without(rest, (at,))
            told = _by_rules(tuple(sorted(lesser)), known)
            if told is None:
                return None
            found = pair_sum(found, told)
    return found


def _is_descending(row):
    """Whether no exponent is above the one ahead of it."""
    return all([row[k] >= row[k + 1] for k in range(len(row) - 1)])


def need_exponents(exponents):
    """Refuses what is no tuple of exponents, and exponents with too great a sum."""
    if not is_row(exponents, 0):
        raise InvalidOperation("the exponents are no tuple of one to eight integers of at least 0")
    if sum(exponents) > MOST_SUM:
        raise TooMany(MOST_SUM)
