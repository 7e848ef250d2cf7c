"""Tau numbers by their recursion; nothing here checks what it is passed."""

from bandrims.base.bounds import is_pair
from bandrims.base.numbers import odd_product
from bandrims.base.pairs import loose_sum, pair_product, reduced
from bandrims.tables.steps import rest_without, shares


def handles_of_sum(many, total):
    """The number of handles that so many exponents with this sum have, None if they have none."""
    handles = (total + 3 - many) // 3
    if 3 * handles - 3 + many != total or not is_pair(handles, many):
        return None
    return handles


def first_parts(exponents):
    """The dict from parts to the pairs by which their tau numbers are multiplied.

    Each part is a descending tuple of exponents; parts without handles are left out. So there are none
    for exponents without handles, for (0, 0, 0) and for (1,).
    """
    k = exponents[0]
    rest = exponents[1:]
    bottom = odd_product(2 * k + 1)
    found = {}
    for at, d in enumerate(rest):
        if k + d >= 1:
            factor = (odd_product(2 * k + 2 * d - 1), bottom * odd_product(2 * d - 1))
            _put(found, [(k + d - 1,) + rest_without(rest, (at,))], factor)
    for a in range(k - 1):
        b = k - 2 - a
        factor = (odd_product(2 * a + 1) * odd_product(2 * b + 1), 2 * bottom)
        _put(found, [(a, b) + rest], factor)
        for one, other in shares(rest):
            _put(found, [(a,) + one, (b,) + other], factor)
    return {parts: reduced(found[parts][0], found[parts][1]) for parts in sorted(found)}


def _put(found, parts, factor):
    """Adds a factor to what the dict has for these parts, if all of them have handles."""
    if any([handles_of_sum(len(part), sum(part)) is None for part in parts]):
        return
    key = tuple(sorted([tuple(sorted(part, reverse=True)) for part in parts]))
    found[key] = loose_sum(found.get(key, (0, 1)), factor)


class TauTable:
    """Tau numbers that are known already."""

    def __init__(self):
        self.known = {}

    def number(self, exponents):
        """The tau number, a fraction."""
        key = tuple(sorted(exponents))
        if key not in self.known:
            self.known[key] = self.worked_out(key)
        return self.known[key]

    def worked_out(self, exponents):
        """The tau number of ascending exponents: with the least one ahead there are the fewest parts."""
        if handles_of_sum(len(exponents), sum(exponents)) is None:
            return (0, 1)
        if exponents == (0, 0, 0):
            return (1, 1)
        if exponents == (1,):
            return (1, 24)
        found = (0, 1)
        for parts, factor in first_parts(exponents).items():
            told = factor
            for part in parts:
                told = pair_product(told, self.number(part))
            found = loose_sum(found, told)
        return reduced(found[0], found[1])
