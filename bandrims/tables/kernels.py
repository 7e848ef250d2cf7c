"""Sums over lengths with told parities, as the numbers of the powers of their sum.

Each sum here is, for all lengths m of one parity, a sum of odd powers of m. Nothing here checks what
it is passed.
"""

from bandrims.base.pairs import whole_power
from bandrims.base.terms import fitted_sums, tidy_terms


def merging_row(parity, a):
    """The fractions of m, m ** 3, .. in the sum of p ** (2 a + 1) * q over all p + q = m with an even q.

    m has this parity.
    """
    spots = [2 * k + 2 - parity for k in range(a + 2)]
    return _odd_powers(spots, [_merging_sum(spot, a) for spot in spots])


def splitting_row(first, second, a, c):
    """The fractions of m, m ** 3, .. in the sum of p ** (2 a + 1) * q ** (2 c + 1) * r over all p + q + r = m.

    p and q have these parities, and r is even.
    """
    parity = (first + second) % 2
    spots = [2 * k + 2 - parity for k in range(a + c + 3)]
    return _odd_powers(spots, [_splitting_sum(spot, first, second, a, c) for spot in spots])


def _merging_sum(whole, a):
    """The sum of the first kind for one m."""
    return sum([whole_power(whole - q, 2 * a + 1) * q for q in range(2, whole, 2)])


def _splitting_sum(whole, first, second, a, c):
    """The sum of the second kind for one m."""
    return sum([
        whole_power(p, 2 * a + 1) * whole_power(whole - r - p, 2 * c + 1) * r
        for r in range(2, whole, 2)
        for p in range(2 - first, whole - r, 2)
        if (whole - r - p) % 2 == second
    ])


def _odd_powers(spots, sums):
    """The list of the fractions of m, m ** 3, .. that have these sums at these m."""
    # Divided by m what comes is a formula in m * m.
    pairs = [(told, spot) for told, spot in zip(sums, spots)]
    terms = tidy_terms(fitted_sums([spot * spot for spot in spots], pairs))
    return [terms.get((k,), (0, 1)) for k in range(len(spots))]
