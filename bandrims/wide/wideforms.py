"""The terms of wide forms, by two ways that share nothing; nothing here checks what it is passed.

A term is told by the exponents of the borders and, behind them, by that of the square of a half turn.
"""

from math import comb, factorial

from bandrims.base.bounds import depth_of
from bandrims.base.numbers import bernoulli
from bandrims.base.pairs import loose_sum, pair_product, reduced
from bandrims.base.terms import add_at, exponents_up_to, tidy_terms
from bandrims.tables.steps import fallen_apart
from bandrims.tops.taus import TauTable


def kernel_terms(step):
    """The terms of a kernel in its letters c and t."""
    found = {}
    for i in range(step + 1):
        top, bottom = _kernel_number(i)
        found[(step - i, i)] = (factorial(2 * step - 1) * top, factorial(2 * step - 2 * i) * bottom)
    return tidy_terms(found)


def _kernel_number(i):
    """The number h(i)."""
    if i == 0:
        return (1, 1)
    top, bottom = bernoulli(2 * i)
    fours = 1 << (2 * i)
    return (abs(top) * fours * (fours - 2), bottom * factorial(2 * i))


class WideTable:
    """Wide forms that are known already, by their recursion."""

    def __init__(self):
        self.known = {}

    def form(self, handles, many):
        """The terms of the wide form."""
        key = (handles, many)
        if key not in self.known:
            self.known[key] = self.worked_out(handles, many)
        return self.known[key]

    def worked_out(self, handles, many):
        """The same, by the beginning or by the sums of all other borders with the first one."""
        if (handles, many) == (0, 3):
            return {(0, 0, 0, 0): (1, 1)}
        if (handles, many) == (1, 1):
            return {(0, 1): (1, 12), (1, 0): (1, 48)}
        sums = {}
        if many > 1:
            self.add_merged(sums, handles, many)
        for a, b, rest, turns, pair in self.two_ended(handles, many):
            top = factorial(2 * a + 1) * factorial(2 * b + 1)
            factor = pair_product(pair, (top, 2 * factorial(2 * a + 2 * b + 3)))
            for (power, more), number in kernel_terms(a + b + 2).items():
                add_at(sums, (power,) + rest + (turns + more,), pair_product(factor, number))
        return tidy_terms({row: (sums[row][0], sums[row][1] * (2 * row[0] + 1)) for row in sums})

    def add_merged(self, sums, handles, many):
        """Adds what comes where the first border and another one become one."""
        for row, pair in self.form(handles, many - 1).items():
            rest = row[1:-1]
            for (whole, more), number in kernel_terms(row[0] + 1).items():
                for u in range(whole + 1):
                    top, bottom = pair_product(pair, number)
                    told = (top * comb(2 * whole, 2 * u), bottom)
                    for j in range(many - 1):
                        others = rest[:j] + (whole - u,) + rest[j:]
                        add_at(sums, (u,) + others + (row[-1] + more,), told)

    def two_ended(self, handles, many):
        """The list of all terms of what comes where the first border becomes two.

        Each is told by the exponents of these two, by those of all other borders, by that of the half
        turn, and by its number.
        """
        found = []
        if handles > 0:
            for row, pair in self.form(handles - 1, many + 1).items():
                found.append((row[0], row[1], row[2:-1], row[-1], pair))
        for h, one, k, other in fallen_apart(handles, tuple(range(many - 1))):
            for row, pair in self.form(h, 1 + len(one)).items():
                for other_row, other_pair in self.form(k, 1 + len(other)).items():
                    rest = _put_together(one, row[1:-1], other, other_row[1:-1])
                    turns = row[-1] + other_row[-1]
                    found.append((row[0], other_row[0], rest, turns, pair_product(pair, other_pair)))
        return found


def _put_together(one, row, other, other_row):
    """The exponents of all borders: those of two shares of the borders, each by ascending borders."""
    found = [0] * (len(one) + len(other))
    for at, exponent in zip(one + other, row + other_row):
        found[at] = exponent
    return tuple(found)


def tau_terms_of(handles, many):
    """The terms of the wide form, by tau numbers."""
    table = TauTable()
    depth = depth_of(handles, many)
    rows = exponents_up_to(many, depth)
    return tidy_terms({row + (depth - sum(row),): _tau_term(table, row, depth - sum(row)) for row in rows})


def _tau_term(table, row, turns):
    """The number of the term with these exponents."""
    found = (0, 1)
    for parts in _sequences(turns):
        top = 1
        bottom = factorial(len(parts))
        for part in parts:
            # Each integer above 1 brings a sign of its own.
            top = (top * (1 - 2 * ((part - 1) % 2))) << part
            bottom = bottom * factorial(part)
        told = table.number(row + tuple([part + 1 for part in parts]))
        found = loose_sum(found, pair_product(told, (top, bottom)))
    bottom = found[1] << sum(row)
    for exponent in row:
        bottom = bottom * factorial(exponent)
    return reduced(found[0], bottom)


def _sequences(whole):
    """The list of all tuples of integers from 1 on with this sum."""
    found = [[()]]
    for total in range(1, whole + 1):
        found.append([parts + (last,) for last in range(1, total + 1) for parts in found[total - last]])
    return found[whole]
