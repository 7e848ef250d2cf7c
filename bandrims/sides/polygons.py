"""Sides of polygons and their pairings; nothing here checks what it is passed."""

from bandrims.bands.walks import hang_together, rounds_of


def next_sides(rims):
    """The list that has for each side the one behind it in its polygon."""
    found = []
    for length in rims:
        first = len(found)
        found.extend([first + (k + 1) % length for k in range(length)])
    return found


def names_of_sides(rims):
    """The list that has for each side the name of its polygon."""
    return [name for name, length in enumerate(rims) for _ in range(length)]


def after_of(rims, pairing):
    """The tuple after of the side web."""
    behind = next_sides(rims)
    return tuple([behind[side] for side in pairing])


def all_pairings(many):
    """Each pairing of so many sides, ascending, one by one."""
    waiting = [(-1,) * many]
    if many % 2 == 1:
        waiting = []
    while len(waiting) > 0:
        begun = waiting.pop()
        if -1 not in begun:
            yield begun
        else:
            side = begun.index(-1)
            # What is put there last is taken first.
            for partner in range(many - 1, side, -1):
                if begun[partner] == -1:
                    waiting.append(_with_pair(begun, side, partner))


def _with_pair(begun, side, partner):
    """The pairing that is begun, with two further sides being partners, the first one below the second one."""
    return begun[:side] + (partner,) + begun[side + 1:partner] + (side,) + begun[partner + 1:]


def fault_of(after, pairing):
    """What keeps the side web from being that of a proper pairing, None if nothing does."""
    if not hang_together(after, pairing):
        return "apart"
    degrees = [len(place) for place in rounds_of(after)]
    if min(degrees) == 1:
        return "lone"
    if max(degrees) == 2:
        return "ring"
    return None


def is_proper_with(behind, pairing, many):
    """Whether the pairing is proper and its side web has so many places."""
    after = [behind[side] for side in pairing]
    degrees = [len(place) for place in rounds_of(after)]
    if len(degrees) != many or min(degrees) == 1 or max(degrees) == 2:
        return False
    return hang_together(after, pairing)


def ends_of_full(after):
    """The ascending list of the sides at places with at least three ends."""
    return sorted([side for place in rounds_of(after) if len(place) >= 3 for side in place])


def way_along(after, pairing, end):
    """The end at which a tie of the full web ends that begins at an end, and its length."""
    far = pairing[end]
    length = 1
    while after[after[far]] == far:
        far = pairing[after[far]]
        length = length + 1
    return (far, length)


def turned_sides(rims, steps):
    """The list of the sides that all sides become by a turning."""
    found = []
    for length, step in zip(rims, steps):
        first = len(found)
        found.extend([first + (k + step) % length for k in range(length)])
    return found


def first_sides(rounds, length_of):
    """The dict from all ends to the first one of the sides for which they stand, by the rounds of all rims."""
    found = {}
    many = 0
    for whole in rounds:
        for end in whole:
            found[end] = many
            many = many + length_of[end]
    return found
