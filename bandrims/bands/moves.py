"""Changes of webs that are told by their three tuples; nothing here checks what it is passed.

Each function returns the three tuples of the new web.
"""


def without_tie(after, mate, names, end):
    """Without the two ends of a tie; all others keep their sequence and are renumbered."""
    gone = (end, mate[end])
    kept = [spot for spot in range(len(after)) if spot not in gone]
    numbers = {spot: k for k, spot in enumerate(kept)}
    step = []
    for spot in kept:
        ahead = after[spot]
        while ahead in gone:
            ahead = after[ahead]
        step.append(numbers[ahead])
    return (tuple(step), tuple([numbers[mate[spot]] for spot in kept]), tuple([names[spot] for spot in kept]))


def drawn(after, mate, names, end):
    """With a tie between unlike places drawn together."""
    # When the two ends exchange what comes behind them, their rounds become one.
    step = list(after)
    step[end] = after[mate[end]]
    step[mate[end]] = after[end]
    return without_tie(step, mate, names, end)


def split_place(after, mate, names, first, second):
    """With a new tie that parts the place of two ends."""
    new = len(after)
    step = list(after) + [new, new + 1]
    if first != second:
        step[after.index(second)] = new
        step[new + 1] = second
        step[after.index(first)] = new + 1
    else:
        step[after.index(first)] = new
    step[new] = first
    return (tuple(step), mate + (new + 1, new), names + (names[second], names[first]))


def without_side(after, mate, names, end):
    """Without a tie that has unlike names on its sides, which become the lesser one of both."""
    low = min(names[end], names[mate[end]])
    high = max(names[end], names[mate[end]])
    merged = [low if name == high else name for name in names]
    return without_tie(after, mate, [name - 1 if name > high else name for name in merged], end)


def split_rim(after, mate, names, first, second):
    """With a new tie that parts the rim of two ends."""
    new = len(after)
    step = list(after) + [new, new + 1]
    _insert_ahead(step, new, first)
    _insert_ahead(step, new + 1, second)
    told = list(names) + [names[first], max(names) + 1]
    spot = first
    while spot != second:
        told[spot] = max(names) + 1
        spot = after[mate[spot]]
    return (tuple(step), mate + (new + 1, new), tuple(told))


def _insert_ahead(step, new, end):
    """Makes a new end stand next ahead of an end; step still leads the new one to itself."""
    step[step.index(end)] = new
    step[new] = end


def can_flip(after, mate, end):
    """Whether the tie of the end stands between unlike places of three ends."""
    return _is_three(after, end) and _is_three(after, mate[end]) and mate[end] not in (after[end], after[after[end]])


def _is_three(after, end):
    """Whether the place of the end has three ends."""
    return after[end] != end and after[after[after[end]]] == end


def flipped_once(after, mate, names, end):
    """With the tie of the end flipped, which can be flipped."""
    other = mate[end]
    a = after[end]
    b = after[a]
    c = after[other]
    d = after[c]
    step = list(after)
    for spot, ahead in ((end, b), (b, c), (c, end), (other, d), (d, a), (a, other)):
        step[spot] = ahead
    told = list(names)
    told[end] = names[d]
    told[other] = names[b]
    return (tuple(step), mate, tuple(told))


def rows_turned_over(after, mate, rims_of):
    """With the places as its rims; rims_of are the rounds of all places, by their least ends."""
    told = [0] * len(after)
    for name, place in enumerate(rims_of):
        for end in place:
            told[end] = name
    return (tuple([after[end] for end in mate]), mate, tuple(told))
