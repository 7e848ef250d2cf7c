"""All full webs of a pair, grown from one web of threes; nothing here checks what it is passed.

Names are given last: before that a web is told by the pair (after, mate) of its least code without
names, which is far fewer webs than there are with all names.
"""

from bandrims.bands.moves import can_flip, drawn, flipped_once, split_place
from bandrims.bands.numbering import columns_of, least_code_of
from bandrims.bands.walks import rim_steps, round_from, rounds_of
from bandrims.base.terms import arrangements


def full_codes(handles, many):
    """The ascending list of the least codes of all full webs of a pair, one for each lot of alike ones."""
    found = {}
    for after, mate in _bare_full(_bare_threes(handles, many)):
        _put_named(after, mate, found)
    return sorted(found)


def threes_codes(handles, many):
    """The same for webs of threes alone."""
    found = {}
    for after, mate in _bare_threes(handles, many):
        _put_named(after, mate, found)
    return sorted(found)


def _put_named(after, mate, found):
    """Puts the least codes of a web with all sequences of names into a dict."""
    rims = rounds_of(rim_steps(after, mate))
    name_of = [0] * len(mate)
    for k, rim in enumerate(rims):
        for end in rim:
            name_of[end] = k
    for order in arrangements(tuple(range(len(rims)))):
        found[least_code_of(after, mate, [order[k] for k in name_of])] = True


def _bare_code(after, mate):
    """The least code without names."""
    return least_code_of(after, mate, (0,) * len(mate))


def _bare_rows(codes):
    """The list of the pairs (after, mate) that codes tell."""
    return [columns_of(code)[:2] for code in codes]


def _bare_full(threes):
    """The list of all full webs that come of webs of threes, drawing ties together one by one."""
    found = []
    level = threes
    while len(level) > 0:
        found.extend(level)
        met = {}
        for after, mate in level:
            for end in _ends_between(after, mate):
                told = drawn(after, mate, (0,) * len(mate), end)
                met[_bare_code(told[0], told[1])] = True
        level = _bare_rows(met)
    return found


def _ends_between(after, mate):
    """The list of the heads of all ties between unlike places."""
    return [end for end in range(len(mate)) if end < mate[end] and mate[end] not in round_from(after, end)]


def _bare_threes(handles, many):
    """The list of all webs of threes of a pair: flips lead from one of them to all."""
    first_after, first_mate = _one_of_threes(handles, many)
    code = _bare_code(first_after, first_mate)
    met = {code: True}
    waiting = [code]
    while len(waiting) > 0:
        after, mate, names = columns_of(waiting.pop())
        for end in range(len(mate)):
            if end < mate[end] and can_flip(after, mate, end):
                told = flipped_once(after, mate, names, end)
                code = _bare_code(told[0], told[1])
                if code not in met:
                    met[code] = True
                    waiting.append(code)
    return _bare_rows(met)


def _one_of_threes(handles, many):
    """The pair (after, mate) of a web of threes: one place with all handles and rims, parted to threes."""
    after, mate = _one_place(handles, many)
    first = 0
    for _ in range(len(mate) - 3):
        # One of both places gets three ends, and all that is left is at the other one.
        second = after[after[first]]
        after, mate, _ = split_place(after, mate, (0,) * len(mate), first, second)
        first = len(mate) - 1
    return (after, mate)


def _one_place(handles, many):
    """The pair (after, mate) of a web with one place: crossing ties for handles, loops for further rims."""
    ends = 4 * handles + 2 * (many - 1)
    after = tuple([(end + 1) % ends for end in range(ends)])
    mate = []
    for handle in range(handles):
        mate.extend([4 * handle + step for step in (2, 3, 0, 1)])
    for end in range(4 * handles, ends, 2):
        mate.extend([end + 1, end])
    return (after, tuple(mate))
