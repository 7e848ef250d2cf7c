"""Trees, lots of ties, and rows that are walked; nothing here checks what it is passed."""

from bandrims.bands.walks import rounds_of


def place_indices(places, many):
    """The list that has for each of so many ends the index of its place."""
    found = [0] * many
    for at, place in enumerate(places):
        for end in place:
            found[end] = at
    return found


def ends_met(web, lot):
    """The list of the ends at which ties of a lot, from the place of the end 0 on, first lead to other places."""
    place_of = place_indices(web.places, len(web.mate))
    met = [0]
    waiting = [0]
    found = []
    while len(waiting) > 0:
        at = waiting.pop()
        for end in web.places[at]:
            far = web.mate[end]
            if min(end, far) in lot and place_of[far] not in met:
                met.append(place_of[far])
                waiting.append(place_of[far])
                found.append(far)
    return found


def hold_together(web, lot):
    """Whether by the ties of a lot alone all places hang together."""
    return len(ends_met(web, lot)) == len(web.places) - 1


def walked(web, row):
    """The list of the numbers with which a row is walked at all ends."""
    found = [0] * len(web.mate)
    for head, number in zip(web.heads, row):
        found[head] = number
        found[web.mate[head]] = -number
    return found


def place_sums(web, numbers):
    """The list of the sums, at all places, of what is walked at their ends."""
    return [sum([numbers[end] for end in place]) for place in web.places]


def closed_by_tree(web, tree, end):
    """The only closed row that is walked with 1 at an end and has 0 at all other ties beyond a tree."""
    place_of = place_indices(web.places, len(web.mate))
    numbers = [0] * len(web.mate)
    numbers[end] = 1
    numbers[web.mate[end]] = -1
    sums = place_sums(web, numbers)
    # The place that was met last has just one tie of the tree of which the number is not told yet.
    for spot in reversed(ends_met(web, tree)):
        near = place_of[spot]
        far = place_of[web.mate[spot]]
        numbers[spot] = -sums[near]
        numbers[web.mate[spot]] = sums[near]
        sums[far] = sums[far] + sums[near]
    return tuple([numbers[head] for head in web.heads])


def rims_of_lot(web, lot):
    """How many rims there are if all ties beyond a lot are left out, but no place."""
    kept = [end for end in range(len(web.mate)) if min(end, web.mate[end]) in lot]
    index_of = {end: k for k, end in enumerate(kept)}
    step = []
    for end in kept:
        ahead = web.after[web.mate[end]]
        while ahead not in index_of:
            ahead = web.after[ahead]
        step.append(index_of[ahead])
    bare = [place for place in web.places if not any([end in index_of for end in place])]
    return len(rounds_of(tuple(step))) + len(bare)
