"""Whole lengths of ties that give told lengths to rims; nothing here checks what it is passed.

The ties are told by their sides, the pairs of the names of the rims of both ends. A filling is a tuple
of whole lengths, one for each tie.
"""


def sides_of_ties(heads, mate, names):
    """The list of the pairs of names on both sides of all ties."""
    return [(names[head], names[mate[head]]) for head in heads]


def least_needs(sides, many):
    """The list that has for each number of ties the least lengths that all ties behind them give to the rims."""
    found = [(0,) * many]
    for pair in reversed(sides):
        found.append(_with_length(found[-1], pair, 1))
    return found[::-1]


def _with_length(rims, pair, length):
    """The lengths of rims with a further tie of this length."""
    told = list(rims)
    for name in pair:
        told[name] = told[name] + length
    return tuple(told)


def can_begin(needs, rims):
    """Whether the sum can be that of a filling, and each rim is long enough for its ties."""
    return sum(rims) % 2 == 0 and all([length >= need for length, need in zip(rims, needs)])


def next_lengths(pair, needs, left):
    """The ascending list of the lengths of a tie for which the rims keep at least what is needed behind it."""
    many = 2 if pair[0] == pair[1] else 1
    most = min([(left[name] - needs[name]) // many for name in pair])
    found = []
    for length in range(1, most + 1):
        rest = _with_length(left, pair, -length)
        # A rim of which no further tie comes must be used up.
        if all([needs[name] > 0 or rest[name] == 0 for name in pair]):
            found.append(length)
    return found


def fillings(sides, rims):
    """Each filling for these lengths of rims, ascending, one by one."""
    needs = least_needs(sides, len(rims))
    waiting = [((), rims)] if can_begin(needs[0], rims) else []
    while len(waiting) > 0:
        begun, left = waiting.pop()
        if len(begun) == len(sides):
            yield begun
        else:
            pair = sides[len(begun)]
            told = next_lengths(pair, needs[len(begun) + 1], left)
            # What is put there last is taken first.
            for length in reversed(told):
                waiting.append((begun + (length,), _with_length(left, pair, -length)))


def filling_number(sides, rims):
    """How many fillings there are, none of them being made."""
    needs = least_needs(sides, len(rims))
    ways = {rims: 1} if can_begin(needs[0], rims) else {}
    for k, pair in enumerate(sides):
        found = {}
        for left, many in ways.items():
            for length in next_lengths(pair, needs[k + 1], left):
                rest = _with_length(left, pair, -length)
                found[rest] = found.get(rest, 0) + many
        ways = found
    return sum(list(ways.values()))
