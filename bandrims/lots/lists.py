"""The lists of all full webs of a pair, each web once up to likeness."""

from bandrims.bands.moves import drawn
from bandrims.bands.numbering import columns_of, least_code_of, symmetry_number_of
from bandrims.bands.webs import Web, need_web
from bandrims.base.bounds import need_handles, need_listed, need_many
from bandrims.base.numbers import need_within
from bandrims.base.pairs import pair_total
from bandrims.errors import InvalidOperation
from bandrims.lots.growing import full_codes, threes_codes

MAX_DEPTH = 4

# No web has more ties than this.
_MOST_TIES = 24


def full_webs(handles, many):
    """The list of the pair."""
    _need_list(handles, many)
    return tuple([_web_of(code) for code in full_codes(handles, many)])


def threes_webs(handles, many):
    """The list of the webs of threes of the pair."""
    _need_list(handles, many)
    return tuple([_web_of(code) for code in threes_codes(handles, many)])


def each_full(handles, many):
    """Each web of the list of the pair, one by one."""
    _need_list(handles, many)
    codes = full_codes(handles, many)
    for code in codes:
        yield _web_of(code)


def place_in_list(web):
    """The index of the web of the list that the web is alike to."""
    _need_listed_web(web)
    codes = full_codes(web.handles, len(web.rims))
    return codes.index(least_code_of(web.after, web.mate, web.names))


def web_numbers(handles, many):
    """How many webs of the list have how many ties."""
    _need_list(handles, many)
    return _numbers_of([len(code) // 2 for code in full_codes(handles, many)])


def degree_numbers(handles, many):
    """How many webs of the list have places of which degrees."""
    _need_list(handles, many)
    return _numbers_of([tuple(sorted(_web_of(code).degrees)) for code in full_codes(handles, many)])


def web_sum(handles, many, ties):
    """The sum of 1, divided by the number of symmetries, over the webs of the list with so many ties."""
    need_handles(handles)
    need_many(many)
    need_within(ties, 1, _MOST_TIES)
    need_listed(handles, many, MAX_DEPTH)
    found = []
    for code in full_codes(handles, many):
        if len(code) == 2 * ties:
            after, mate, names = columns_of(code)
            found.append((1, symmetry_number_of(after, mate, names)))
    return pair_total(found)


def drawn_places(web):
    """The places in the list of all that comes of the web by drawing one tie together."""
    _need_listed_web(web)
    found = {}
    for end in web.heads:
        if web.mate[end] not in web.place_round(end):
            after, mate, names = drawn(web.after, web.mate, web.names, end)
            found[least_code_of(after, mate, names)] = True
    if len(found) == 0:
        return ()
    codes = full_codes(web.handles, len(web.rims))
    return tuple([place for place, code in enumerate(codes) if code in found])


def _need_list(handles, many):
    """Refuses what is no pair of which a list is told."""
    need_handles(handles)
    need_many(many)
    need_listed(handles, many, MAX_DEPTH)


def _need_listed_web(web):
    """Refuses what is no full web of a pair of which a list is told."""
    need_web(web)
    if not web.is_full:
        raise InvalidOperation("a place of the web has less than three ends")
    need_listed(web.handles, len(web.rims), MAX_DEPTH)


def _web_of(code):
    """The web that a code tells."""
    after, mate, names = columns_of(code)
    return Web(after, mate, names)


def _numbers_of(keys):
    """The dict from the keys, ascending, to how often each of them stands in the list."""
    found = {}
    for key in sorted(keys):
        found[key] = found.get(key, 0) + 1
    return found
