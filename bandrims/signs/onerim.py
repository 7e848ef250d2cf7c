"""Gluings of the sides of one rim: their numbers, and the webs with one rim that they make."""

from math import comb

from bandrims.bands.walks import rounds_of
from bandrims.bands.webs import Web, need_end, need_web
from bandrims.base.bounds import need_handles
from bandrims.base.numbers import is_integer, is_within, need_within
from bandrims.base.pairs import pair_total, whole_power
from bandrims.errors import InvalidNumber, InvalidOperation, InvalidPairing
from bandrims.sides.polygons import all_pairings

MOST_TIES = 100
MOST_COLOURS = 10 ** 6
MOST_GLUED = 24
MOST_LISTED = 6


def gluings(handles, ties):
    """The number of all gluings of so many ties with so many handles."""
    need_handles(handles)
    need_within(ties, 0, MOST_TIES)
    return _number_at(_rows_up_to(ties), handles, ties)


def gluing_row(ties):
    """The numbers of all gluings of so many ties, by their numbers of handles."""
    need_within(ties, 0, MOST_TIES)
    return tuple(_rows_up_to(ties)[ties])


def gluing_value(ties, colours):
    """How many gluings with a choice of a colour for each place there are."""
    need_within(ties, 0, MOST_TIES)
    need_within(colours, 0, MOST_COLOURS)
    row = _rows_up_to(ties)[ties]
    return sum([number * whole_power(colours, ties + 1 - 2 * g) for g, number in enumerate(row)])


def bare_gluings(handles, ties):
    """The number of the gluings without a place of one end."""
    _need_many_handles(handles, ties)
    rows = _rows_up_to(ties)
    found = []
    for k in range(2 * handles, ties + 1):
        sign = 1 - 2 * ((ties - k) % 2)
        ways = comb(ties + k - 1, ties - k)
        found.append((sign * ties * ways * _number_at(rows, handles, k), k))
    # The sum is an integer, though not each of its terms need be one.
    return pair_total(found)[0]


def full_gluings(handles, ties):
    """The number of the gluings that make full webs."""
    _need_many_handles(handles, ties)
    rows = _rows_up_to(ties)
    found = []
    for k in range(2 * handles, ties + 1):
        found.append((ties * _number_at(rows, handles, k) * _signed_ways(k, ties - k), k))
    return pair_total(found)[0]


def is_gluing(value):
    """Whether the value is a gluing."""
    if not isinstance(value, tuple) or len(value) % 2 == 1 or not 2 <= len(value) <= 2 * MOST_GLUED:
        return False
    if not all([is_within(side, 0, len(value) - 1) for side in value]):
        return False
    return all([partner != side and value[partner] == side for side, partner in enumerate(value)])


def gluing_pairings(ties):
    """Each gluing of so many ties, ascending, one by one."""
    need_within(ties, 1, MOST_LISTED)
    sides = 2 * ties
    for pairing in all_pairings(sides):
        yield pairing


def web_of_gluing(pairing):
    """The web with one rim that a gluing tells."""
    _need_gluing(pairing)
    return Web(_after_of(pairing), pairing, (0,) * len(pairing))


def gluing_of_web(web, end):
    """The gluing that reads a web with one rim from an end."""
    need_web(web)
    need_end(web, end)
    if len(web.rims) != 1:
        raise InvalidOperation("the web has more than one rim")
    ends = web.rim_round(end)
    side_of = {spot: side for side, spot in enumerate(ends)}
    return tuple([side_of[web.mate[spot]] for spot in ends])


def gluing_handles(pairing):
    """The number of handles of the web of a gluing."""
    _need_gluing(pairing)
    places = len(rounds_of(_after_of(pairing)))
    return (len(pairing) // 2 + 1 - places) // 2


def turns_of(pairing):
    """The ascending tuple of the numbers of sides by which a gluing can be turned and stays as it is."""
    _need_gluing(pairing)
    return tuple([steps for steps in range(len(pairing)) if _turned(pairing, steps) == pairing])


def turned(pairing, steps):
    """The gluing that reads the same web from another side on."""
    _need_gluing(pairing)
    need_within(steps, 0, len(pairing) - 1)
    return _turned(pairing, steps)


def _turned(pairing, steps):
    """The same, nothing being checked."""
    many = len(pairing)
    return tuple([(partner - steps) % many for partner in pairing[steps:] + pairing[:steps]])


def _after_of(pairing):
    """For each side the one behind its partner."""
    return tuple([(partner + 1) % len(pairing) for partner in pairing])


def _rows_up_to(ties):
    """The list of the rows of the numbers of gluings of 0, 1, .. ties."""
    rows = [[1]]
    for e in range(1, ties + 1):
        row = []
        for g in range(e // 2 + 1):
            plain = 2 * (2 * e - 1) * _number_at(rows, g, e - 1)
            crossed = (2 * e - 1) * (e - 1) * (2 * e - 3) * _number_at(rows, g - 1, e - 2)
            row.append((plain + crossed) // (e + 1))
        rows.append(row)
    return rows


def _number_at(rows, handles, ties):
    """The number of gluings, 0 for numbers below 0 and for too many handles."""
    if handles < 0 or ties < 0 or 2 * handles > ties:
        return 0
    return rows[ties][handles]


def _signed_ways(k, more):
    """What a gluing of k ties without places of two ends gives for so many ties more."""
    found = 0
    for j in range(more + 1):
        r = more - j
        sign = 1 - 2 * (r % 2)
        found = found + sign * (comb(k, j) * comb(2 * k - 1 + r, r) << r)
    return found


def _need_gluing(pairing):
    """Refuses what is no gluing."""
    if not is_gluing(pairing):
        raise InvalidPairing("this is no gluing of up to 24 ties")


def _need_many_handles(handles, ties):
    """Refuses what is no number of handles above 0 with a number of ties."""
    if not is_integer(handles) or handles < 1:
        raise InvalidNumber(handles)
    need_within(ties, 0, MOST_TIES)
