"""Codes of webs: likenesses, symmetries, and webs with other names or other ends."""

from bandrims.bands.numbering import (
    code_of, columns_of, ends_of_code, least_code_of, led_to, met_from, symmetry_number_of)
from bandrims.bands.webs import Web, is_web_data, need_end, need_web
from bandrims.base.numbers import is_integer
from bandrims.errors import InvalidOperation

MOST_ENDS = 48
MOST_RIMS = 8


def code_from(web, end):
    """The code from an end."""
    need_web(web)
    need_end(web, end)
    return code_of(web.after, web.mate, web.names, end)


def least_code(web):
    """The least of the codes from all ends."""
    need_web(web)
    return least_code_of(web.after, web.mate, web.names)


def is_code(value):
    """Whether the value is the code of some web from some end."""
    if not isinstance(value, tuple) or len(value) > MOST_ENDS:
        return False
    if not all([isinstance(row, tuple) and len(row) == 3 for row in value]):
        return False
    after, mate, names = columns_of(value)
    return is_web_data((after, mate, names)) and code_of(after, mate, names, 0) == value


def web_of_code(code):
    """The web that a code tells."""
    if not is_code(code):
        raise InvalidOperation("this is no code of a web")
    after, mate, names = columns_of(code)
    return Web(after, mate, names)


def are_alike(one, other):
    """Whether there is a likeness of one web to the other one."""
    return likeness(one, other) is not None


def likeness(one, other):
    """A likeness of one web to the other one, None if there is none."""
    need_web(one)
    need_web(other)
    found = _likenesses(one, other)
    return found[0] if len(found) > 0 else None


def is_likeness(one, other, value):
    """Whether the value is a likeness of one web to the other one."""
    need_web(one)
    need_web(other)
    if len(one) != len(other) or not _is_sequence(value, len(one.mate)):
        return False
    for end, led in enumerate(value):
        if value[one.after[end]] != other.after[led] or value[one.mate[end]] != other.mate[led]:
            return False
        if one.names[end] != other.names[led]:
            return False
    return True


def symmetries(web):
    """The ascending tuple of all likenesses of the web to itself."""
    need_web(web)
    # No two of them lead the end 0 to one end, so they stand in the sequence of these ends.
    return tuple(_likenesses(web, web))


def symmetry_number(web):
    """How many symmetries there are."""
    need_web(web)
    return symmetry_number_of(web.after, web.mate, web.names)


def renamed(web, order):
    """The web with order[k] as the name of each rim k."""
    need_web(web)
    if not _is_sequence(order, len(web.rims)):
        raise InvalidOperation("the order does not have each name once")
    return Web(web.after, web.mate, tuple([order[name] for name in web.names]))


def shuffled(web, order):
    """The web with the end order[i] in the place of each end i."""
    need_web(web)
    if not _is_sequence(order, len(web.mate)):
        raise InvalidOperation("the order does not have each end once")
    after = led_to(order, [order[end] for end in web.after])
    mate = led_to(order, [order[end] for end in web.mate])
    return Web(after, mate, led_to(order, web.names))


def mirrored(web):
    """The web with all rounds of places the other way round."""
    need_web(web)
    return Web(_mirrored_after(web), web.mate, tuple([web.names[end] for end in web.mate]))


def rim_orders(web):
    """The ascending tuple of the sequences of names by which the web is renamed to one that is alike."""
    need_web(web)
    found = {}
    for move in _bare_likenesses(web, web.after):
        order = [0] * len(web.rims)
        for end, led in enumerate(move):
            order[web.names[end]] = web.names[led]
        found[tuple(order)] = True
    return tuple(sorted(found))


def has_turning(web):
    """Whether the web is alike to the mirrored one but for the names."""
    need_web(web)
    return len(_bare_likenesses(web, _mirrored_after(web))) > 0


def _likenesses(one, other):
    """The list of all likenesses, in the sequence of the ends to which the end 0 is led."""
    return _moves((one.after, one.mate, one.names), (other.after, other.mate, other.names))


def _bare_likenesses(web, after):
    """The list of all likenesses to the web with another tuple after, names being left out of sight."""
    bare = (0,) * len(web.mate)
    return _moves((web.after, web.mate, bare), (after, web.mate, bare))


def _moves(rows, other_rows):
    """The list of all likenesses of one web to another one, both told by their three tuples."""
    after, mate, names = rows
    other_after, other_mate, other_names = other_rows
    code = code_of(after, mate, names, 0)
    met = met_from(after, mate, 0)
    ends = ends_of_code(other_after, other_mate, other_names, code)
    return [led_to(met, met_from(other_after, other_mate, end)) for end in ends]


def _mirrored_after(web):
    """The tuple that has for each end the one that is ahead of it at its place."""
    return led_to(web.after, list(range(len(web.after))))


def _is_sequence(value, many):
    """Whether the value is a tuple that has each integer from 0 to below many once."""
    if not isinstance(value, tuple) or len(value) != many:
        return False
    return all([is_integer(number) for number in value]) and sorted(value) == list(range(many))
