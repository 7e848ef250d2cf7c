"""The checks of handles, rims and pairs, which are the same in all stages."""

from bandrims.base.numbers import is_integer, is_within, need_within
from bandrims.errors import InvalidNumber, InvalidRims, Refused, TooMany

_MOST_NAMES = 8
_LISTED = ((0, 3), (0, 4), (1, 1), (1, 2), (2, 1))


def need_handles(handles):
    """Refuses what is no number of handles."""
    if not is_integer(handles) or handles < 0:
        raise InvalidNumber(handles)


def need_many(many):
    """Refuses what is no number of rims."""
    need_within(many, 1, _MOST_NAMES)


def is_row(value, least):
    """Whether the value is a tuple of 1 to 8 integers, none of them below the least one."""
    if not isinstance(value, tuple) or not 1 <= len(value) <= _MOST_NAMES:
        return False
    return all([is_integer(length) and length >= least for length in value])


def need_rims(rims):
    """Refuses what is no tuple of lengths of rims."""
    if not is_row(rims, 1):
        raise InvalidRims("the rims are no tuple of 1 to 8 integers of at least 1")


def is_odd_number(value, many):
    """Whether so many of so many lengths can be odd, their sum being even."""
    return is_within(value, 0, many) and value % 2 == 0


def is_pair(handles, many):
    """Whether both are a pair."""
    return handles >= 0 and many >= 1 and 2 * handles - 2 + many >= 1


def depth_of(handles, many):
    """The depth of a pair."""
    return 3 * handles - 3 + many


def need_pair(handles, many):
    """Refuses what is no pair."""
    if not is_pair(handles, many):
        raise Refused(("pair",))


def need_listed(handles, many, limit=4):
    """Refuses what is no pair, and pairs of which no list is told."""
    need_pair(handles, many)
    if (handles, many) not in _LISTED:
        raise TooMany(limit)


def need_shallow(handles, many, limit=5, most=6):
    """Refuses what is no pair, and pairs of a depth above the limit or with too many rims."""
    need_pair(handles, many)
    if depth_of(handles, many) > limit or many > most:
        raise TooMany(limit)
