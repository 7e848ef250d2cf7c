"""The numbers of the terms of the forms of all pairs, by a recursion over these numbers.

A rim is told by its mark, the pair of the parity of its length and of the exponent of its square in a
term. The number of a term does not hang on the sequence of the marks. Nothing here checks what it is
passed.
"""

from math import comb

from bandrims.base.bounds import depth_of
from bandrims.base.pairs import loose_sum, pair_product, reduced
from bandrims.tables.kernels import merging_row, splitting_row
from bandrims.tables.steps import fallen_apart


class MarkTable:
    """Numbers that are known already."""

    def __init__(self):
        self.known = {}
        self.merging = {}
        self.splitting = {}

    def number(self, handles, marks):
        """The number of the term with these marks in the form of the pair, a fraction."""
        key = (handles, tuple(sorted(marks)))
        if key not in self.known:
            self.known[key] = self.worked_out(handles, key[1])
        return self.known[key]

    def worked_out(self, handles, marks):
        """The number, by the forms of (0, 3) and (1, 1) or by the first rim."""
        degree = sum([exponent for _, exponent in marks])
        if sum([parity for parity, _ in marks]) % 2 == 1 or degree > depth_of(handles, len(marks)):
            return (0, 1)
        if (handles, len(marks)) == (0, 3):
            return (1, 1)
        if (handles, len(marks)) == (1, 1):
            return (1, 48) if degree == 1 else (-1, 12)
        merged = self.merged_sum(handles, marks)
        split = self.split_sum(handles, marks)
        found = loose_sum(merged, (split[0], 2 * split[1]))
        return reduced(found[0], found[1])

    def merged_sum(self, handles, marks):
        """What comes where the first rim and another one become one."""
        parity, exponent = marks[0]
        found = (0, 1)
        for j in range(1, len(marks)):
            rest = marks[1:j] + marks[j + 1:]
            power = exponent + marks[j][1]
            ways = comb(2 * power + 1, 2 * marks[j][1])
            led = (parity + marks[j][0]) % 2
            for a in range(max(0, power - 1), depth_of(handles, len(rest) + 1) + 1):
                told = self.number(handles, ((led, a),) + rest)
                factor = self.merging_number(led, a, power)
                found = loose_sum(found, (ways * told[0] * factor[0], told[1] * factor[1]))
        return found

    def split_sum(self, handles, marks):
        """What comes where the first rim becomes two, twice."""
        parity, exponent = marks[0]
        rest = marks[1:]
        ways = fallen_apart(handles, rest)
        most = depth_of(handles, len(marks)) - 2
        found = (0, 1)
        for first in (0, 1):
            second = (parity + first) % 2
            for a in range(most + 1):
                for c in range(max(0, exponent - 2 - a), most - a + 1):
                    told = self.two_parts(handles, (first, a), (second, c), rest, ways)
                    factor = self.splitting_number((first, second, a, c), exponent)
                    found = loose_sum(found, pair_product(told, factor))
        return found

    def two_parts(self, handles, one, other, rest, ways):
        """The number with both marks in the place of the first one, and those of webs that fall apart."""
        found = (0, 1)
        if handles > 0:
            found = self.number(handles - 1, (one, other) + rest)
        for h, near, k, far in ways:
            found = loose_sum(found, pair_product(self.number(h, (one,) + near), self.number(k, (other,) + far)))
        return found

    def merging_number(self, parity, a, power):
        """What a merged rim with the exponent a tells of the power 2 * power + 1 of both lengths."""
        key = (parity, a)
        if key not in self.merging:
            self.merging[key] = merging_row(parity, a)
        return self.merging[key][power]

    def splitting_number(self, key, power):
        """What two rims tell of the power 2 * power + 1 of their length; the key has parities and exponents."""
        if key not in self.splitting:
            first, second, a, c = key
            self.splitting[key] = splitting_row(first, second, a, c)
        return self.splitting[key][power]
