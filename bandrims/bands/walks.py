"""Walks over ends: rounds of steps, and whether all ends hang together."""


def round_from(step, start):
    """The tuple of all that step leads to, one behind the other, from the start on."""
    found = [start]
    spot = step[start]
    while spot != start:
        found.append(spot)
        spot = step[spot]
    return tuple(found)


def rounds_of(step):
    """All rounds of a permutation, each from its least member, ascending."""
    found = []
    met = [False] * len(step)
    for start in range(len(step)):
        if not met[start]:
            whole = round_from(step, start)
            found.append(whole)
            for spot in whole:
                met[spot] = True
    return tuple(found)


def rim_steps(after, mate):
    """The tuple that has for each end the next one of its rim."""
    return tuple([after[end] for end in mate])


def hang_together(after, mate):
    """Whether steps of both sorts lead from the end 0 to all ends."""
    met = [False] * len(after)
    met[0] = True
    waiting = [0]
    while len(waiting) > 0:
        end = waiting.pop()
        for near in (after[end], mate[end]):
            if not met[near]:
                met[near] = True
                waiting.append(near)
    return all(met)
