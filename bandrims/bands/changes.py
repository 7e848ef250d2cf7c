"""Changes of webs: drawing together, parting, taking out, putting in, flips and turning over."""

from bandrims.bands.moves import (
    can_flip, drawn, flipped_once, rows_turned_over, split_place, split_rim, without_side)
from bandrims.bands.numbering import least_code_of
from bandrims.bands.webs import Web, need_end, need_web
from bandrims.base.bounds import need_listed
from bandrims.base.numbers import is_within
from bandrims.errors import InvalidOperation, TooMany

MAX_TIES = 24
MAX_RIMS = 8
MOST_FLIPS = 200


def drawn_together(web, end):
    """The web in which a tie between unlike places is drawn together."""
    need_web(web)
    need_end(web, end)
    if len(web) == 1 or web.mate[end] in web.place_round(end):
        raise InvalidOperation("this tie cannot be drawn together")
    return _web_of(drawn(web.after, web.mate, web.names, end))


def parted(web, first, second):
    """The web in which the place of two ends is parted."""
    _need_two_ends(web, first, second)
    if second not in web.place_round(first):
        raise InvalidOperation("the ends are not at one place")
    _need_room(len(web) + 1, len(web.rims))
    return _web_of(split_place(web.after, web.mate, web.names, first, second))


def taken_out(web, end):
    """The web without a tie that has unlike names on its sides."""
    need_web(web)
    need_end(web, end)
    if len(web) == 1 or web.names[end] == web.names[web.mate[end]]:
        raise InvalidOperation("this tie cannot be taken out")
    return _web_of(without_side(web.after, web.mate, web.names, end))


def put_in(web, first, second):
    """The web with a new tie from one place of a rim to another one."""
    _need_two_ends(web, first, second)
    if web.names[first] != web.names[second]:
        raise InvalidOperation("the ends are not of one rim")
    _need_room(len(web) + 1, len(web.rims) + 1)
    return _web_of(split_rim(web.after, web.mate, web.names, first, second))


def is_flip(web, value):
    """Whether the value is an end at which the web can be flipped."""
    need_web(web)
    return is_within(value, 0, len(web.mate) - 1) and can_flip(web.after, web.mate, value)


def flipped(web, end):
    """The web, flipped at an end."""
    need_web(web)
    need_end(web, end)
    if not can_flip(web.after, web.mate, end):
        raise InvalidOperation("the web cannot be flipped there")
    return _web_of(flipped_once(web.after, web.mate, web.names, end))


def turned_over(web):
    """The web with its rims as places and its places as rims."""
    need_web(web)
    _need_room(len(web), len(web.places))
    return _web_of(rows_turned_over(web.after, web.mate, web.places))


def flips_between(one, other):
    """A row of flips that leads one web of threes to another one, None if they are of unlike sizes."""
    _need_threes(one, other)
    if not _are_of_one_pair(one, other):
        return None
    need_listed(one.handles, len(one.rims))
    wanted = least_code_of(other.after, other.mate, other.names)
    rows = (one.after, one.mate, one.names)
    met = {least_code_of(one.after, one.mate, one.names): ()}
    waiting = [(rows, ())]
    # The webs are met by the number of flips that they need, so that no row of flips is too long.
    while wanted not in met:
        found = []
        # A list of its own is walked, since what the loop fills is what waits next.
        for (after, mate, names), row in list(waiting):
            found.extend(_first_met(after, mate, names, row, met))
        waiting = found
    return met[wanted]


def is_flips(one, other, value):
    """Whether the value is a row of flips that leads one web of threes to another one."""
    _need_threes(one, other)
    if not isinstance(value, tuple) or len(value) > MOST_FLIPS:
        return False
    after, mate, names = (one.after, one.mate, one.names)
    for end in value:
        if not is_within(end, 0, len(mate) - 1) or not can_flip(after, mate, end):
            return False
        after, mate, names = flipped_once(after, mate, names, end)
    return least_code_of(after, mate, names) == least_code_of(other.after, other.mate, other.names)


def _first_met(after, mate, names, row, met):
    """The pairs of the webs that one flip more meets first and of the rows of flips that lead there."""
    found = []
    for end in range(len(mate)):
        # Flips at both ends of a tie make the same web.
        if end < mate[end] and can_flip(after, mate, end):
            told = flipped_once(after, mate, names, end)
            code = least_code_of(told[0], told[1], told[2])
            if code not in met:
                met[code] = row + (end,)
                found.append((told, row + (end,)))
    return found


def _web_of(rows):
    """The web that three tuples tell."""
    after, mate, names = rows
    return Web(after, mate, names)


def _need_two_ends(web, first, second):
    """Refuses what is no web with two ends of it."""
    need_web(web)
    need_end(web, first)
    need_end(web, second)


def _need_room(ties, rims):
    """Refuses more ties or rims than a web has."""
    if ties > MAX_TIES:
        raise TooMany(MAX_TIES)
    if rims > MAX_RIMS:
        raise TooMany(MAX_RIMS)


def _need_threes(one, other):
    """Refuses what are no two webs of threes."""
    need_web(one)
    need_web(other)
    if not one.is_threes or not other.is_threes:
        raise InvalidOperation("a web has a place without three ends")


def _are_of_one_pair(one, other):
    """Whether the webs have equally many handles and rims."""
    return one.handles == other.handles and len(one.rims) == len(other.rims)
