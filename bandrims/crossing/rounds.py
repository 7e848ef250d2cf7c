"""Closed rows of integers along the ties of a web, and how often two of them cross."""

from bandrims.bands.webs import need_end, need_web
from bandrims.base.numbers import is_integer, need_within
from bandrims.base.pairs import is_any_integer
from bandrims.base.rows import determinant
from bandrims.crossing.trees import closed_by_tree, ends_met, hold_together, place_sums, rims_of_lot, walked
from bandrims.errors import InvalidOperation


def is_closed(web, value):
    """Whether the value is a closed row of the web."""
    need_web(web)
    if not isinstance(value, tuple) or len(value) != len(web):
        return False
    if not all([is_any_integer(number) for number in value]):
        return False
    return all([total == 0 for total in place_sums(web, walked(web, value))])


def is_tree(web, value):
    """Whether the value is a tree of the web."""
    need_web(web)
    return _is_lot(web, value) and len(value) == len(web.places) - 1 and hold_together(web, value)


def tree_ties(web):
    """A tree of the web."""
    need_web(web)
    return _tree_of(web)


def round_of(web, tree, end):
    """The round of an end of a tie beyond the tree."""
    _need_tree(web, tree)
    need_end(web, end)
    if min(end, web.mate[end]) in tree:
        raise InvalidOperation("the tie of this end is one of the tree")
    return closed_by_tree(web, tree, end)


def tree_rounds(web, tree):
    """The rounds of all heads beyond the tree."""
    _need_tree(web, tree)
    return tuple([closed_by_tree(web, tree, head) for head in _beyond(web, tree)])


def rim_row(web, name):
    """The row of a rim."""
    need_web(web)
    need_within(name, 0, len(web.rims) - 1)
    return tuple([_weight(web, name, head) - _weight(web, name, web.mate[head]) for head in web.heads])


def rim_weights(web, row):
    """The integers by which the row is a sum of multiples of the rows of all rims, None if it is none."""
    _need_rows(web, [row])
    numbers = walked(web, row)
    weights = {0: 0}
    # Where ties have a known rim on one side, they tell what is on the other side.
    while len(weights) < len(web.rims):
        for end, number in enumerate(numbers):
            near, far = web.sides_of(end)
            if near in weights and far not in weights:
                weights[far] = weights[near] - number
    found = tuple([weights[name] for name in range(len(web.rims))])
    told = [found[web.names[head]] - found[web.names[web.mate[head]]] for head in web.heads]
    return found if tuple(told) == row else None


def crossing_number(web, one, other):
    """The crossing number of two closed rows."""
    _need_rows(web, [one, other])
    return _crossing(web, one, other)


def crossing_table(web, tree):
    """The crossing numbers of the rounds of all heads beyond the tree."""
    _need_tree(web, tree)
    rounds = [closed_by_tree(web, tree, head) for head in _beyond(web, tree)]
    return tuple([tuple([_crossing(web, one, other) for other in rounds]) for one in rounds])


def mixed_table(web, tree):
    """The table of the crossing numbers of rounds, and of the entries of rounds at the ties of the tree."""
    _need_tree(web, tree)
    return tuple([tuple(row) for row in _mixed_rows(web, tree)])


def is_tight(web, value):
    """Whether the value is a tight lot of the web."""
    need_web(web)
    return _is_lot(web, value) and hold_together(web, value) and rims_of_lot(web, value) == 1


def tight_number(web):
    """The number of all tight lots."""
    need_web(web)
    rows = _mixed_rows(web, _tree_of(web))
    return determinant([row[:k] + [row[k] + 1] + row[k + 1:] for k, row in enumerate(rows)])


def is_bridge(web, end):
    """Whether the other ties alone do not hang all places together."""
    need_web(web)
    need_end(web, end)
    others = [head for head in web.heads if head not in (end, web.mate[end])]
    return not hold_together(web, others)


def _mixed_rows(web, tree):
    """The rows of the mixed table, lists."""
    rounds = {head: closed_by_tree(web, tree, head) for head in _beyond(web, tree)}
    return [[_mixed_entry(web, rounds, one, other) for other in web.heads] for one in web.heads]


def _mixed_entry(web, rounds, one, other):
    """The entry of the mixed table at two ties; only ties beyond the tree have rounds."""
    if one in rounds and other in rounds:
        return _crossing(web, rounds[one], rounds[other])
    if one in rounds:
        return rounds[one][web.tie_of(other)]
    if other in rounds:
        return -rounds[other][web.tie_of(one)]
    return 0


def _crossing(web, one, other):
    """The crossing number of two closed rows."""
    numbers = walked(web, one)
    others = walked(web, other)
    found = 0
    for place in web.places:
        # The sums of all ends ahead stand for the pairs of ends.
        whole = 0
        whole_other = 0
        for end in place:
            found = found + whole * others[end] - whole_other * numbers[end]
            whole = whole + numbers[end]
            whole_other = whole_other + others[end]
    return found // 2


def _tree_of(web):
    """The tree whose ties lead from the place of the end 0 to all places."""
    return tuple(sorted([min(end, web.mate[end]) for end in ends_met(web, web.heads)]))


def _beyond(web, tree):
    """The heads beyond a tree, ascending."""
    return [head for head in web.heads if head not in tree]


def _weight(web, name, end):
    """1 if the end has this name, else 0."""
    return 1 if web.names[end] == name else 0


def _is_lot(web, value):
    """Whether the value is an ascending tuple of heads."""
    if not isinstance(value, tuple) or not all([is_integer(head) and head in web.heads for head in value]):
        return False
    return all([value[k] < value[k + 1] for k in range(len(value) - 1)])


def _need_tree(web, tree):
    """Refuses what is no web with a tree of it."""
    if not is_tree(web, tree):
        raise InvalidOperation("this is no tree of the web")


def _need_rows(web, rows):
    """Refuses what is no web with closed rows of it."""
    if not all([is_closed(web, row) for row in rows]):
        raise InvalidOperation("this is no closed row of the web")
