"""Joined pieces that are told by their kinds and nodes; nothing here checks what it is passed."""

from math import factorial

from bandrims.base.terms import arrangements
from bandrims.tables.steps import shares


def points_of(many, nodes):
    """The tuple of the numbers of points of so many pieces."""
    found = [0] * many
    for node in nodes:
        for at in node:
            found[at] = found[at] + 1
    return tuple(found)


def are_joined(many, nodes):
    """Whether nodes lead from the first one of so many pieces to all of them."""
    met = [0]
    waiting = [0]
    while len(waiting) > 0:
        at = waiting.pop()
        for low, high in nodes:
            for near, far in ((low, high), (high, low)):
                if near == at and far not in met:
                    met.append(far)
                    waiting.append(far)
    return len(met) == many


def handles_of_joined(kinds, nodes):
    """The number of handles of joined pieces."""
    return sum([handles for handles, _ in kinds]) + len(nodes) + 1 - len(kinds)


def least_rows(kinds, nodes):
    """The least pair of kinds and nodes of pieces that are alike."""
    least = tuple(sorted(kinds))
    orders = [order for order in _orders(kinds) if tuple([kinds[at] for at in order]) == least]
    return (least, min([_renumbered(nodes, order) for order in orders]))


def rearrangement_number(kinds, nodes):
    """How many rearrangements there are."""
    # What an order leaves open is which of equal nodes goes to which, and the turns of nodes within one piece.
    orders = [order for order in _orders(kinds) if tuple([kinds[at] for at in order]) == kinds]
    found = [_renumbered(nodes, order) for order in orders].count(nodes)
    for k, node in enumerate(nodes):
        if node not in nodes[:k]:
            found = found * factorial(nodes.count(node))
        if node[0] == node[1]:
            found = found * 2
    return found


def drawn_rows(kinds, nodes, number):
    """The kinds and nodes of what comes of drawing together the node with this index."""
    low, high = nodes[number]
    rest = nodes[:number] + nodes[number + 1:]
    handles, rims = kinds[low]
    if low == high:
        return (_with_kind(kinds, low, (handles + 1, rims)), rest)
    more, others = kinds[high]
    told = _with_kind(kinds, low, (handles + more, tuple(sorted(rims + others))))
    place_of = [low if at == high else at - 1 if at > high else at for at in range(len(kinds))]
    return (told[:high] + told[high + 1:], _led(rest, place_of))


def all_graphs(handles, many, most):
    """The ascending list of the least pairs of kinds and nodes of all joined pieces of a pair with up to most nodes."""
    level = [(((handles, tuple(range(many))),), ())]
    found = level
    for _ in range(most):
        met = {}
        for kinds, nodes in level:
            for told, joined in _split_once(kinds, nodes):
                met[least_rows(told, joined)] = True
        level = sorted(met)
        found = found + level
    return sorted(found)


def _orders(kinds):
    """The list of all sequences of the indices of the pieces."""
    return arrangements(tuple(range(len(kinds))))


def _renumbered(nodes, order):
    """The nodes if the piece order[i] gets the index i."""
    place_of = [0] * len(order)
    for place, at in enumerate(order):
        place_of[at] = place
    return _led(nodes, place_of)


def _led(nodes, place_of):
    """The nodes with the index place_of[i] in the place of each index i, sorted again."""
    return tuple(sorted([tuple(sorted([place_of[low], place_of[high]])) for low, high in nodes]))


def _with_kind(kinds, at, kind):
    """The kinds with another one at an index."""
    return kinds[:at] + (kind,) + kinds[at + 1:]


def _split_once(kinds, nodes):
    """The list of the kinds and nodes of all that becomes these joined pieces if one node is drawn together."""
    found = []
    new = len(kinds)
    for at, (handles, rims) in enumerate(kinds):
        if handles > 0:
            found.append((_with_kind(kinds, at, (handles - 1, rims)), nodes + ((at, at),)))
        for led in _nodes_parted(nodes, at, new):
            joined = led + ((at, new),)
            points = points_of(new + 1, joined)
            for here, there in shares(rims):
                for h in range(handles + 1):
                    # Neither piece may be too small.
                    if 2 * h + len(here) + points[at] >= 3 and 2 * (handles - h) + len(there) + points[new] >= 3:
                        found.append((_with_kind(kinds, at, (h, here)) + ((handles - h, there),), joined))
    return found


def _nodes_parted(nodes, at, new):
    """The list of the nodes in all ways in which points of a piece can be led to a new piece."""
    found = [()]
    for low, high in nodes:
        lows = (low, new) if low == at else (low,)
        highs = (high, new) if high == at else (high,)
        found = [joined + ((one, other),) for joined in found for one in lows for other in highs]
    return found
