"""[17.1] to [17.7]: wide surfaces."""

import itertools
import random
import unittest
from fractions import Fraction
from math import comb, factorial

from bandrims.base.formulas import Formula, formula_of_text
from bandrims.base.numbers import bernoulli
from bandrims.errors import InvalidNumber, InvalidRims, Refused, TooMany
from bandrims.tops.volumes import volume_form
from bandrims.wide import borders as module
from bandrims.wide.borders import (
    border_cut, border_slope, closed_number, kernel, wide_by_tau, wide_form, wide_value)
from tests.kinds import LONG, Refusing, is_either, kinds, raised, short
from tests.specs import as_fraction, is_length_up_to
from tests.test_recursion import is_pair
from tests.test_solutions import fraction_pair
from tests.test_tau import tau_by_words

# The pairs with a depth of at most 4 and at most six rims, the first ones beyond, and those that can be cut.
WIDE = [(0, 3), (0, 4), (0, 5), (0, 6), (1, 1), (1, 2), (1, 3), (1, 4), (2, 1)]
BEYOND = [(0, 7), (0, 8), (1, 5), (1, 6), (2, 2), (2, 8), (3, 1), (LONG - 1, 1)]
CUT = [(0, 3), (0, 4), (0, 5), (1, 1), (1, 2), (1, 3)]

# The known numbers: with pi squared in the place of t these are volumes that are told in books.
TOLD = {(0, 4): {(1, 0, 0, 0, 0): (1, 2), (0, 0, 0, 0, 1): (2, 1)},
        (0, 5): {(2, 0, 0, 0, 0, 0): (1, 8), (1, 1, 0, 0, 0, 0): (1, 2), (1, 0, 0, 0, 0, 1): (3, 1), (0, 0, 0, 0, 0, 2): (10, 1)},
        (1, 3): {(3, 0, 0, 0): (1, 1152), (2, 1, 0, 0): (1, 192), (1, 1, 1, 0): (1, 96), (2, 0, 0, 1): (1, 24),
                 (1, 1, 0, 1): (1, 8), (1, 0, 0, 2): (13, 24), (0, 0, 0, 3): (14, 9)},
        (2, 1): {(4, 0): (1, 442368), (3, 1): (29, 138240), (2, 2): (139, 23040), (1, 3): (169, 2880), (0, 4): (29, 192)}}


def depth(handles, many):
    """The depth of a pair."""
    return 3 * handles - 3 + many


def kernel_by_words(k):
    """The terms of [17.2]."""
    found = {}
    for i in range(k + 1):
        size = Fraction(1)
        if i > 0:
            size = abs(Fraction(*bernoulli(2 * i))) * 4 ** i * (4 ** i - 2) / factorial(2 * i)
        found[(k - i, i)] = factorial(2 * k - 1) * size / factorial(2 * k - 2 * i)
    return found


KNOWN = {(0, 3): {(0, 0, 0, 0): Fraction(1)}, (1, 1): {(1, 0): Fraction(1, 48), (0, 1): Fraction(1, 12)}}


def wide_by_words(g, n):
    """The terms of [17.3]."""
    if (g, n) not in KNOWN:
        found = {}

        def put(number, exponents):
            found[exponents] = found.get(exponents, 0) + number

        for j in range(1, n):
            if is_pair(g, n - 1):
                for row, number in wide_by_words(g, n - 1).items():
                    others = [k for k in range(1, n) if k != j]
                    for (m, i), factor in kernel_by_words(row[0] + 1).items():
                        for u in range(m + 1):
                            exponents = [0] * (n + 1)
                            for k, exponent in zip(others, row[1:-1]):
                                exponents[k] = exponent
                            exponents[0], exponents[j], exponents[n] = u, m - u, row[-1] + i
                            put(number * factor * comb(2 * m, 2 * u), tuple(exponents))

        def put_two(number, a, b, told, turns):
            factor = number / 2 * factorial(2 * a + 1) * factorial(2 * b + 1) / factorial(2 * a + 2 * b + 3)
            for (m, i), size in kernel_by_words(a + b + 2).items():
                put(factor * size, (m,) + tuple([told[k] for k in range(1, n)]) + (turns + i,))

        if g > 0:
            for row, number in wide_by_words(g - 1, n + 1).items():
                put_two(number, row[0], row[1], dict(zip(range(1, n), row[2:-1])), row[-1])
        for chosen in itertools.product((True, False), repeat=n - 1):
            one = [k for k in range(1, n) if chosen[k - 1]]
            other = [k for k in range(1, n) if not chosen[k - 1]]
            for p in range(g + 1):
                if is_pair(p, 1 + len(one)) and is_pair(g - p, 1 + len(other)):
                    for row, number in wide_by_words(p, 1 + len(one)).items():
                        for far, factor in wide_by_words(g - p, 1 + len(other)).items():
                            told = {**dict(zip(one, row[1:-1])), **dict(zip(other, far[1:-1]))}
                            put_two(number * factor, row[0], far[0], told, row[-1] + far[-1])
        KNOWN[(g, n)] = {row: number / (2 * row[0] + 1) for row, number in found.items() if number}
    return KNOWN[(g, n)]


def parts_of(whole):
    """All tuples of integers from 1 on with a sum."""
    if whole == 0:
        return [()]
    return [(first,) + rest for first in range(1, whole + 1) for rest in parts_of(whole - first)]


def tau_term_by_words(d, m):
    """The number of [17.4]."""
    found = Fraction(0)
    for parts in parts_of(m):
        term = Fraction(1, factorial(len(parts)))
        for part in parts:
            term *= Fraction((-1) ** (part - 1) * 2 ** part, factorial(part))
        found += term * tau_by_words(tuple(sorted(d + tuple([part + 1 for part in parts]))))
    for exponent in d:
        found /= 2 ** exponent * factorial(exponent)
    return found


def cut_by_words(terms):
    """The terms with -4 t in the place of the letter of the last border."""
    found = {}
    for row, number in terms.items():
        key = row[:-2] + (row[-1] + row[-2],)
        found[key] = found.get(key, 0) + as_fraction(number) * (-4) ** row[-2]
    return {row: fraction_pair(number) for row, number in found.items() if number}


def slope_by_words(terms):
    """The terms of the derivative by the letter of the last border."""
    return {row[:-2] + (row[-2] - 1, row[-1]): fraction_pair(as_fraction(number) * row[-2])
            for row, number in terms.items() if row[-2] > 0}


class Forms(unittest.TestCase, Refusing):
    def test_constants(self):
        self.assertEqual((module.MAX_DEPTH, module.MOST_STEP), (4, 20))

    def test_recursion(self):
        for handles, many in WIDE:
            form = wide_form(handles, many)
            self.assertIs(type(form), Formula)
            self.assertEqual(form.letters, many + 1)
            self.assertEqual(form.terms, {row: fraction_pair(number) for row, number in wide_by_words(handles, many).items()})
            self.assertEqual(list(form.terms), sorted(form.terms))

    def test_both_ways(self):
        for pair in WIDE:
            self.assertIs(type(wide_by_tau(*pair)), Formula)
            self.assertEqual(wide_by_tau(*pair), wide_form(*pair))

    def test_by_tau(self):
        for handles, many in WIDE:
            whole = depth(handles, many)
            form = wide_by_tau(handles, many)
            rows = [row for row in itertools.product(range(whole + 1), repeat=many) if sum(row) <= whole]
            self.assertEqual(len(form), len(rows))
            for row in rows:
                told = tau_term_by_words(row, whole - sum(row))
                self.assertEqual(form.coefficient(row + (whole - sum(row),)), fraction_pair(told))

    def test_known_numbers(self):
        for (handles, many), told in TOLD.items():
            form = wide_form(handles, many)
            self.assertEqual({row: form.terms[row] for row in told}, told)
            self.assertEqual(form, formula_of_text(many + 1, str(form)))

    def test_what_they_are_like(self):
        for handles, many in WIDE:
            form = wide_form(handles, many)
            whole = depth(handles, many)
            for row, number in form.terms.items():
                self.assertEqual(sum(row), whole)
                self.assertGreater(number[0], 0)
            for k in range(many - 1):
                order = list(range(many + 1))
                order[k], order[k + 1] = k + 1, k
                self.assertEqual(form.exchanged(tuple(order)), form)
            bare = Formula(many, {row[:-1]: number for row, number in form.terms.items() if row[-1] == 0})
            times = fraction_pair(Fraction(2) ** (2 * handles - 3 + many))
            self.assertEqual(bare, volume_form(handles, many).scaled(times))

    def test_not_true(self):
        self.assertEqual(wide_form(2, 1).terms[(1, 3)], (169, 2880))

    def test_pairs(self):
        for call in (wide_form, wide_by_tau):
            for pair in BEYOND:
                self.refuses(TooMany, call, *pair, limit=4)
            for many in (1, 2):
                self.refuses(Refused, call, 0, many, reason=("pair",))
            self.refuses(InvalidNumber, call, -1, 0, given=-1)
            self.refuses(InvalidNumber, call, 0, 9, given=9)


class Kernels(unittest.TestCase, Refusing):
    def test_kernels(self):
        for step in range(1, 21):
            found = kernel(step)
            self.assertIs(type(found), Formula)
            self.assertEqual(found.letters, 2)
            self.assertEqual(found.terms, {row: fraction_pair(number) for row, number in kernel_by_words(step).items()})

    def test_errors(self):
        for wrong in (0, 21, -1, True, None, "1", (1, 1), LONG, [1]):
            self.refuses(InvalidNumber, kernel, wrong, given=wrong)


class Values(unittest.TestCase, Refusing):
    def test_values(self):
        source = random.Random(171)
        choices = [0, 1, 2, (0, 1), (3, 1), (1, 2), (7, 3), 10 ** 59, (10 ** 70, 3)]
        for handles, many in WIDE:
            for square in (0, 1, -2, (1, 3), (-5, 7), (10 ** 65, 3), LONG - 1):
                lengths = tuple([source.choice(choices) for _ in range(many)])
                told = Fraction(0)
                for row, number in wide_form(handles, many).terms.items():
                    term = as_fraction(number) * as_fraction(square) ** row[-1]
                    for length, exponent in zip(lengths, row):
                        term *= as_fraction(length) ** (2 * exponent)
                    told += term
                self.assertEqual(wide_value(handles, lengths, square), fraction_pair(told))

    def test_borders(self):
        right = is_length_up_to(10 ** 200)
        for value in kinds():
            told = type(None)
            if not right(value):
                told = InvalidRims
            elif len(value) > 4:
                told = TooMany
            with self.subTest(value=short(value)):
                self.assertIs(type(raised(wide_value, 1, value, 1)), told)
        for wrong in ((), (-1,), (0,) * 9, [0], (True,), ((2, 4),), ((-1, 2),), (LONG,), None, 1, ("1",)):
            self.refuses(InvalidRims, wide_value, 1, wrong, None)
            self.refuses(InvalidNumber, wide_value, -1, wrong, None, given=-1)

    def test_square(self):
        for value in kinds():
            error = raised(wide_value, 1, (1,), value)
            with self.subTest(value=short(value)):
                self.assertIs(type(error), type(None) if is_either(value) else InvalidNumber)
        for wrong in (True, None, "1", (2, 4), LONG):
            self.refuses(InvalidNumber, wide_value, 0, (1, 1), wrong, given=wrong)
            self.refuses(InvalidNumber, wide_value, 3, (1,), wrong, given=wrong)

    def test_pairs(self):
        for handles, many in BEYOND:
            self.refuses(TooMany, wide_value, handles, (1,) * many, 1, limit=4)
        self.refuses(Refused, wide_value, 0, (1, 1), 1, reason=("pair",))
        self.refuses(Refused, wide_value, 0, (1,), 1, reason=("pair",))


class OneBorderMore(unittest.TestCase, Refusing):
    def test_by_words(self):
        for handles, many in CUT:
            further = wide_form(handles, many + 1).terms
            for call, told in ((border_cut, cut_by_words(further)), (border_slope, cut_by_words(slope_by_words(further)))):
                found = call(handles, many)
                self.assertIs(type(found), Formula)
                self.assertEqual((found.letters, found.terms), (many + 1, told))

    def test_cut(self):
        for handles, many in CUT:
            told = Formula(many + 1, {})
            for row, number in wide_form(handles, many).terms.items():
                for k in range(many):
                    higher = row[:k] + (row[k] + 1,) + row[k + 1:]
                    told = told.plus(Formula(many + 1, {higher: fraction_pair(as_fraction(number) / (2 * row[k] + 2))}))
            self.assertEqual(border_cut(handles, many), told)

    def test_slope(self):
        for handles, many in CUT:
            told = wide_form(handles, many).scaled(fraction_pair(Fraction(2 * handles - 2 + many, 2)))
            self.assertEqual(border_slope(handles, many), told)

    def test_pairs(self):
        for call in (border_cut, border_slope):
            for pair in [pair for pair in WIDE + BEYOND if pair not in CUT]:
                self.refuses(TooMany, call, *pair, limit=3)
            for many in (1, 2):
                self.refuses(Refused, call, 0, many, reason=("pair",))
            self.refuses(InvalidNumber, call, True, 0, given=True)
            self.refuses(InvalidNumber, call, 0, 0, given=0)

    def test_closed(self):
        self.assertEqual(closed_number(2), (43, 2160))
        # With no border the slope is (2 g - 2) / 2 times the form, and the cut is 0.
        further = wide_form(2, 1).terms
        self.assertEqual(cut_by_words(slope_by_words(further)), {(3,): (43, 2160)})
        self.assertEqual(cut_by_words(further), {})
        for wrong in (0, 1):
            self.refuses(Refused, closed_number, wrong, reason=("pair",))
        for wrong in (3, 4, LONG - 1):
            self.refuses(TooMany, closed_number, wrong, limit=4)
        for wrong in (-1, True, None, "2", (2, 1), LONG, [2]):
            self.refuses(InvalidNumber, closed_number, wrong, given=wrong)
