"""Pieces joined at nodes: all of them, and the counts and Euler numbers that they add up."""

from bandrims.base.bounds import depth_of, is_odd_number, is_row, need_handles, need_many, need_shallow
from bandrims.base.formulas import formula_of_terms
from bandrims.base.numbers import is_integer, is_within, need_within
from bandrims.base.pairs import pair_product, pair_total
from bandrims.base.terms import add_at, product_of_terms, tidy_terms
from bandrims.errors import InvalidNumber, InvalidPieces, InvalidRims, TooMany
from bandrims.nodes.graphs import (
    all_graphs, are_joined, drawn_rows, handles_of_joined, least_rows, points_of, rearrangement_number)
from bandrims.signs.euler import euler_number
from bandrims.tables.values import FormTable

MAX_DEPTH = 3
MOST_PIECES = 6
MOST_NODES = 6

_MOST_RIMS = 8
_MOST_HANDLES = 20


class Pieces:
    """Pieces joined at nodes; they never change."""

    def __init__(self, kinds, nodes):
        if not _are_kinds(kinds) or not _are_nodes(nodes, len(kinds)) or not _are_right(kinds, nodes):
            raise InvalidPieces("both do not tell joined pieces")
        self._kinds = kinds
        self._nodes = nodes

    @property
    def kinds(self):
        """The numbers of handles and the names of the rims of all pieces."""
        return self._kinds

    @property
    def nodes(self):
        """The pairs of the indices of the pieces that are joined."""
        return self._nodes

    @property
    def points(self):
        """The numbers of points of all pieces."""
        return points_of(len(self._kinds), self._nodes)

    @property
    def handles(self):
        """The number of handles."""
        return handles_of_joined(self._kinds, self._nodes)

    @property
    def many(self):
        """The number of rims."""
        return sum([len(rims) for _, rims in self._kinds])

    @property
    def depth(self):
        """The depth of the pair of the handles and rims."""
        return depth_of(self.handles, self.many)

    @property
    def rearrangements(self):
        """How many rearrangements there are."""
        return rearrangement_number(self._kinds, self._nodes)

    def least(self):
        """The least ones that are alike to these."""
        return _pieces_of(least_rows(self._kinds, self._nodes))

    def drawn(self, number):
        """The least ones of what comes of drawing together the node with this index."""
        need_within(number, 0, len(self._nodes) - 1)
        kinds, nodes = drawn_rows(self._kinds, self._nodes, number)
        if max([handles for handles, _ in kinds]) > _MOST_HANDLES:
            raise TooMany(_MOST_HANDLES)
        return _pieces_of(least_rows(kinds, nodes))

    def __eq__(self, other):
        return isinstance(other, Pieces) and self._kinds == other._kinds and self._nodes == other._nodes

    def __len__(self):
        return len(self._kinds)

    def __str__(self):
        return f"{len(self._kinds)} pieces, {len(self._nodes)} nodes"


def are_alike_pieces(one, value):
    """Whether the value is joined pieces that are alike to others."""
    if not isinstance(one, Pieces):
        raise InvalidPieces("these are no joined pieces")
    return isinstance(value, Pieces) and one.least() == value.least()


def all_joined(handles, many):
    """The least joined pieces of the pair, ascending."""
    _need_joined(handles, many)
    return tuple([_pieces_of(rows) for rows in _graphs(handles, many)])


def node_numbers(handles, many):
    """How many of them have 0, 1, .. nodes."""
    _need_joined(handles, many)
    numbers = [len(nodes) for _, nodes in _graphs(handles, many)]
    return tuple([numbers.count(k) for k in range(depth_of(handles, many) + 1)])


def joined_terms(handles, rims):
    """The products of the counts of the pieces, divided by the numbers of rearrangements, for all joined pieces."""
    _need_joined_rims(handles, rims)
    return tuple(_terms(handles, rims))


def joined_count(handles, rims):
    """The joined count."""
    _need_joined_rims(handles, rims)
    return pair_total(_terms(handles, rims))


def joined_form(handles, many, odd):
    """The polynomial that tells the joined counts if just the first lengths, so many, are odd."""
    need_handles(handles)
    need_many(many)
    if not is_odd_number(odd, many):
        raise InvalidNumber(odd)
    need_shallow(handles, many, MAX_DEPTH)
    table = FormTable()
    sums = {}
    for kinds, nodes in _graphs(handles, many):
        found = {(0,) * many: (1, rearrangement_number(kinds, nodes))}
        for (h, names), points in zip(kinds, points_of(len(kinds), nodes)):
            found = product_of_terms(found, _piece_terms(table, (h, names, points), many, odd))
        for row, pair in found.items():
            add_at(sums, row, pair)
    return formula_of_terms(many, tidy_terms(sums))


def closed_euler(handles, many):
    """The closed Euler number."""
    _need_joined(handles, many)
    found = []
    for kinds, nodes in _graphs(handles, many):
        term = (1, rearrangement_number(kinds, nodes))
        for (h, names), points in zip(kinds, points_of(len(kinds), nodes)):
            term = pair_product(term, euler_number(h, len(names) + points))
        found.append(term)
    return pair_total(found)


def _terms(handles, rims):
    """The list of the terms of the joined count."""
    table = FormTable()
    found = []
    for kinds, nodes in _graphs(handles, len(rims)):
        term = (1, rearrangement_number(kinds, nodes))
        for (h, names), points in zip(kinds, points_of(len(kinds), nodes)):
            lengths = tuple([rims[name] for name in names]) + (0,) * points
            term = pair_product(term, table.value(h, lengths))
        found.append(term)
    return found


def _piece_terms(table, piece, many, odd):
    """The terms, in the letters of all rims, of the count of a piece told by its handles, rims and points."""
    handles, names, points = piece
    # The names ascend, so the odd lengths stand first, as the form wants them; it is 0 if they are an odd number.
    odd_ones = len([name for name in names if name < odd])
    found = {}
    for row, pair in table.form(handles, len(names) + points, odd_ones).items():
        # The lengths at points are 0.
        if sum(row[len(names):]) == 0:
            exponents = [0] * many
            for name, exponent in zip(names, row):
                exponents[name] = exponent
            found[tuple(exponents)] = pair
    return found


def _graphs(handles, many):
    """The ascending list of the kinds and nodes of all least joined pieces of the pair."""
    return all_graphs(handles, many, depth_of(handles, many))


def _pieces_of(rows):
    """The joined pieces that kinds and nodes tell."""
    kinds, nodes = rows
    return Pieces(kinds, nodes)


def _are_kinds(value):
    """Whether the value is a tuple of kinds of pieces."""
    if not isinstance(value, tuple) or not 1 <= len(value) <= MOST_PIECES:
        return False
    return all([_is_kind(kind) for kind in value])


def _is_kind(value):
    """Whether the value is a pair of a number of handles and of a sorted tuple of integers."""
    if not isinstance(value, tuple) or len(value) != 2:
        return False
    handles, names = value
    if not is_within(handles, 0, _MOST_HANDLES) or not isinstance(names, tuple):
        return False
    return all([is_integer(name) for name in names]) and tuple(sorted(names)) == names


def _are_nodes(value, many):
    """Whether the value is an ascending tuple, perhaps with repeats, of nodes between so many pieces."""
    if not isinstance(value, tuple) or len(value) > MOST_NODES:
        return False
    if not all([_is_node(node, many) for node in value]):
        return False
    return tuple(sorted(value)) == value


def _is_node(value, many):
    """Whether the value is a pair of indices of pieces, the first one not above the second one."""
    if not isinstance(value, tuple) or len(value) != 2:
        return False
    return all([is_within(at, 0, many - 1) for at in value]) and value[0] <= value[1]


def _are_right(kinds, nodes):
    """Whether each name is at one piece, all pieces hang together, and none of them is too small."""
    names = sorted([name for _, rims in kinds for name in rims])
    if not 1 <= len(names) <= _MOST_RIMS or names != list(range(len(names))):
        return False
    points = points_of(len(kinds), nodes)
    if not all([2 * handles - 2 + len(rims) + more >= 1 for (handles, rims), more in zip(kinds, points)]):
        return False
    return are_joined(len(kinds), nodes)


def _need_joined(handles, many):
    """Refuses what is no pair of a small depth."""
    need_handles(handles)
    need_many(many)
    need_shallow(handles, many, MAX_DEPTH)


def _need_joined_rims(handles, rims):
    """Refuses what is no number of handles with lengths of rims, perhaps 0, of such a pair."""
    need_handles(handles)
    if not is_row(rims, 0):
        raise InvalidRims("the rims are no tuple of 1 to 8 integers of at least 0")
    need_shallow(handles, len(rims), MAX_DEPTH)
