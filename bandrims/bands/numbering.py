"""Codes of webs that are told by their three tuples; nothing here checks what it is passed."""


def met_from(after, mate, start):
    """The list of all ends in the sequence in which they are met from one of them."""
    numbers = {start: 0}
    met = [start]
    for k in range(len(after)):
        end = met[k]
        for near in (after[end], mate[end]):
            if near not in numbers:
                numbers[near] = len(met)
                met.append(near)
    return met


def code_of(after, mate, names, start):
    """The code from an end."""
    met = met_from(after, mate, start)
    numbers = {end: k for k, end in enumerate(met)}
    return tuple([(numbers[after[end]], numbers[mate[end]], names[end]) for end in met])


def compared_code(after, mate, names, start, code):
    """-1, 0 or 1, as the code from an end is below, equal to or above a code of equal length."""
    # Most codes differ from one another soon, so this makes no more of the code than it needs.
    numbers = {start: 0}
    met = [start]
    for k, told in enumerate(code):
        end = met[k]
        ahead = after[end]
        number = numbers.setdefault(ahead, len(met))
        if number == len(met):
            met.append(ahead)
        beyond = mate[end]
        other = numbers.setdefault(beyond, len(met))
        if other == len(met):
            met.append(beyond)
        triple = (number, other, names[end])
        if triple != told:
            return -1 if triple < told else 1
    return 0


def least_code_of(after, mate, names):
    """The least of the codes from all ends."""
    found = code_of(after, mate, names, 0)
    for start in range(1, len(after)):
        if compared_code(after, mate, names, start, found) < 0:
            found = code_of(after, mate, names, start)
    return found


def ends_of_code(after, mate, names, code):
    """The list of all ends from which the web has this code."""
    if len(code) != len(after):
        return []
    return [end for end in range(len(after)) if compared_code(after, mate, names, end, code) == 0]


def symmetry_number_of(after, mate, names):
    """How many symmetries there are: as many as the ends with the code of the end 0."""
    return len(ends_of_code(after, mate, names, code_of(after, mate, names, 0)))


def columns_of(code):
    """The three tuples of the web that a code tells."""
    return tuple([tuple([row[k] for row in code]) for k in range(3)])


def led_to(met, other):
    """The tuple that leads each end of one list to the end at the same place in the other one."""
    found = [0] * len(met)
    for end, led in zip(met, other):
        found[end] = led
    return tuple(found)
