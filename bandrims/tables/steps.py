"""The terms of which the recursion adds up a count; nothing here checks what it is passed."""

from bandrims.base.bounds import is_pair


def merged_triples(rims):
    """The list of all (i, j, q): two rims become one, q being what of their lengths is lost."""
    return [
        (i, j, q)
        for j in range(len(rims))
        for i in range(j)
        for q in range(2, rims[i] + rims[j], 2)
    ]


def split_lengths(length):
    """The list of all (p, q, r): a rim of this length becomes two of the lengths p and q, and r is lost."""
    return [(p, length - r - p, r) for r in range(2, length - 1, 2) for p in range(1, length - r)]


def rest_without(rims, gone):
    """All lengths but those at some indices, in their sequence."""
    return tuple([length for k, length in enumerate(rims) if k not in gone])


def shares(rest):
    """The list of all ways to part a tuple in two, each part in its sequence."""
    found = [((), ())]
    for item in rest:
        found = [(one + (item,), other) for one, other in found] + [(one, other + (item,)) for one, other in found]
    return found


def fallen_apart(handles, rest):
    """The list of all ways in which a web falls apart where a rim becomes two, both parts being of pairs.

    Each is told by both numbers of handles and by the lengths of both parts but for those of the two rims.
    """
    return [
        (h, one, handles - h, other)
        for one, other in shares(rest)
        for h in range(handles + 1)
        if is_pair(h, 1 + len(one)) and is_pair(handles - h, 1 + len(other))
    ]
