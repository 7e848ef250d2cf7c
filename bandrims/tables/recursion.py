"""Counts by a recursion that takes rows of ties out of webs."""

from bandrims.base.bounds import need_handles, need_many, need_rims, need_shallow
from bandrims.base.numbers import is_number
from bandrims.base.pairs import as_pair, loose_sum, pair_product, reduced
from bandrims.errors import InvalidOperation, Refused, TooMany
from bandrims.tables.steps import fallen_apart, merged_triples, rest_without, split_lengths

MAX_SUM = 40
MOST_DEPTH = 5
MOST_RIMS = 6


def count_by_rims(handles, rims):
    """The count of these lengths."""
    _need_counted(handles, rims)
    _need_sum(rims)
    return CountTable().number(handles, rims)


def rim_sum(call, handles, rims):
    """The sum of all terms of the step, divided by the sum of the lengths, with the call in the place of counts."""
    _need_step(handles, rims)

    def told(h, lengths):
        """What the call returns, a fraction."""
        number = call(h, lengths)
        if not is_number(number):
            raise InvalidOperation("a call returns no number")
        return as_pair(number)

    return _step_sum(told, handles, rims)


def is_zero_count(handles, rims):
    """Whether the count of these lengths is 0."""
    _need_counted(handles, rims)
    return sum(rims) % 2 == 1 or sum(rims) < _least(handles, len(rims))


def least_sum(handles, many):
    """The least even sum of lengths for which a count is not 0."""
    need_handles(handles)
    need_many(many)
    need_shallow(handles, many, MOST_DEPTH, MOST_RIMS)
    return _least(handles, many)


def rim_choices(handles, rims):
    """How many terms there are in which two rims become one, and in which one becomes two."""
    _need_step(handles, rims)
    return (len(merged_triples(rims)), sum([len(split_lengths(length)) for length in rims]))


class CountTable:
    """Counts that are known already; the sequence of the lengths does not matter for them."""

    def __init__(self):
        self.known = {}

    def number(self, handles, rims):
        """The count, a fraction."""
        key = (handles, tuple(sorted(rims)))
        if key not in self.known:
            self.known[key] = self.worked_out(handles, key[1])
        return self.known[key]

    def worked_out(self, handles, rims):
        """The count, by its beginning or by a step."""
        if sum(rims) % 2 == 1:
            return (0, 1)
        if _is_beginning(handles, len(rims)):
            return (1, 1) if handles == 0 else reduced(rims[0] * rims[0] - 4, 48)
        return _step_sum(self.number, handles, rims)


def _step_sum(number, handles, rims):
    """The sum of all terms, divided by the sum of the lengths; a call tells the counts, fractions."""
    found = (0, 1)
    # Only (0, 3) is no pair with one rim less, and with it the recursion begins.
    for i, j, q in merged_triples(rims):
        p = rims[i] + rims[j] - q
        told = number(handles, (p,) + rest_without(rims, (i, j)))
        found = loose_sum(found, (p * q * told[0], told[1]))
    for i, length in enumerate(rims):
        found = loose_sum(found, _split_sum(number, handles, length, rest_without(rims, (i,))))
    return reduced(found[0], found[1] * sum(rims))


def _split_sum(number, handles, length, rest):
    """The sum of all terms in which a rim of this length becomes two."""
    found = (0, 1)
    ways = fallen_apart(handles, rest)
    for p, q, r in split_lengths(length):
        told = (0, 1)
        if handles > 0:
            told = number(handles - 1, (p, q) + rest)
        for h, one, k, other in ways:
            told = loose_sum(told, pair_product(number(h, (p,) + one), number(k, (q,) + other)))
        # p * q * r / 2 is an integer, r being even.
        found = loose_sum(found, (p * q * (r // 2) * told[0], told[1]))
    return found


def _is_beginning(handles, many):
    """Whether the recursion begins with this pair."""
    return (handles, many) in ((0, 3), (1, 1))


def _least(handles, many):
    """Twice the least number of ties of a full web of the pair."""
    return 2 * (2 * handles + many - 1)


def _need_counted(handles, rims):
    """Refuses what is no number of handles with lengths of rims of a pair of polynomials."""
    need_handles(handles)
    need_rims(rims)
    need_shallow(handles, len(rims), MOST_DEPTH, MOST_RIMS)


def _need_step(handles, rims):
    """Refuses what no step of the recursion tells."""
    _need_counted(handles, rims)
    if _is_beginning(handles, len(rims)):
        raise Refused(("beginning",))
    _need_sum(rims)


def _need_sum(rims):
    """Refuses too long lengths of rims."""
    if sum(rims) > MAX_SUM:
        raise TooMany(MAX_SUM)
