"""The terms of forms, and values of forms at the squares of lengths; nothing here checks what it is passed."""

from bandrims.base.bounds import depth_of
from bandrims.base.terms import exponents_up_to, tidy_terms, value_at_whole
from bandrims.tables.marks import MarkTable


class FormTable:
    """Forms that are known already."""

    def __init__(self):
        self.marks = MarkTable()
        self.known = {}

    def form(self, handles, many, odd):
        """The terms of the form of a pair for so many odd lengths, put first; none for an odd number of them."""
        key = (handles, many, odd)
        if key not in self.known:
            self.known[key] = self.worked_out(handles, many, odd)
        return self.known[key]

    def worked_out(self, handles, many, odd):
        """The same, made of the numbers of all terms."""
        parities = (1,) * odd + (0,) * (many - odd)
        rows = exponents_up_to(many, depth_of(handles, many))
        return tidy_terms({row: self.marks.number(handles, tuple(zip(parities, row))) for row in rows})

    def value(self, handles, rims):
        """The value of the form for these lengths, 0 for an odd sum."""
        lengths = odd_first(rims)
        odd = sum([length % 2 for length in lengths])
        return value_at_whole(self.form(handles, len(lengths), odd), [length * length for length in lengths])


def odd_first(rims):
    """The list of the lengths, the odd ones first."""
    return sorted(rims, key=lambda length: length % 2, reverse=True)
