"""[10.1] to [10.7]: the polynomials that tell all counts of a pair."""

import itertools
import random
import unittest
from fractions import Fraction

from bandrims.base.formulas import Formula, formula_of_text
from bandrims.errors import InvalidNumber, InvalidRims, Refused, TooMany
from bandrims.tables import forms
from bandrims.tables.forms import (
    count, count_form, count_forms, extended_count, form_top, is_count_form, sum_below)
from tests.kinds import LONG, Refusing, kinds, raised, short
from tests.test_recursion import BEYOND, PAIRS, count_by_words, some_rims
from tests.test_solutions import fraction_pair

# The known numbers of the forms of the least pairs.
TOLD = {
    (0, 3, 0): "1", (0, 3, 2): "1",
    (0, 4, 0): "1/4 x0 + 1/4 x1 + 1/4 x2 + 1/4 x3 - 1",
    (0, 4, 2): "1/4 x0 + 1/4 x1 + 1/4 x2 + 1/4 x3 - 1/2",
    (0, 4, 4): "1/4 x0 + 1/4 x1 + 1/4 x2 + 1/4 x3 - 1",
    (1, 1, 0): "1/48 x0 - 1/12",
    (1, 2, 0): "1/384 x0^2 + 1/192 x0 x1 + 1/384 x1^2 - 1/32 x0 - 1/32 x1 + 1/12",
    (1, 2, 2): "1/384 x0^2 + 1/192 x0 x1 + 1/384 x1^2 - 1/32 x0 - 1/32 x1 + 5/96",
}


def exponents(letters, most):
    """All tuples of exponents with a sum of at most so much."""
    return [row for row in itertools.product(range(most + 1), repeat=letters) if sum(row) <= most]


def value(formula, lengths):
    """The value of a formula at the squares."""
    found = Fraction(0)
    for row, number in formula.terms.items():
        told = Fraction(*number)
        for length, exponent in zip(lengths, row):
            told *= length ** (2 * exponent)
        found += told
    return found


def value_by_words(handles, rims):
    """The extended count of [10.4]."""
    odd = [length for length in rims if length % 2]
    if len(odd) % 2:
        return Fraction(0)
    even = [length for length in rims if length % 2 == 0]
    return value(count_form(handles, len(rims), len(odd)), odd + even)


class Forms(unittest.TestCase, Refusing):
    def test_told_forms(self):
        for (handles, many, odd), text in TOLD.items():
            self.assertEqual(str(count_form(handles, many, odd)), text)
            self.assertTrue(is_count_form(handles, many, odd, formula_of_text(many, text)))

    def test_forms_tell_all_counts(self):
        # No other formula of this degree has these values: there are as many as it has terms.
        for handles, many in PAIRS:
            depth = 3 * handles - 3 + many
            for odd in range(0, many + 1, 2):
                form = count_form(handles, many, odd)
                self.assertIs(type(form), Formula)
                self.assertEqual((form.letters, form.degree), (many, depth))
                for row in exponents(many, depth):
                    lengths = tuple([2 * k + 1 for k in row[:odd]] + [2 * k + 2 for k in row[odd:]])
                    self.assertEqual(value(form, lengths), count_by_words(handles, lengths))

    def test_all_forms(self):
        for handles, many in PAIRS:
            told = tuple([count_form(handles, many, odd) for odd in range(0, many + 1, 2)])
            self.assertIs(type(count_forms(handles, many)), tuple)
            self.assertEqual(count_forms(handles, many), told)

    def test_exchanges(self):
        for handles, many in PAIRS:
            for odd in range(0, many + 1, 2):
                form = count_form(handles, many, odd)
                for k in range(many - 1):
                    order = list(range(many))
                    order[k], order[k + 1] = order[k + 1], order[k]
                    if k + 1 != odd:
                        self.assertEqual(form.exchanged(tuple(order)), form)
        self.assertNotEqual(count_form(0, 5, 2).exchanged((2, 1, 0, 3, 4)), count_form(0, 5, 2))

    def test_tops(self):
        for handles, many in PAIRS:
            depth = 3 * handles - 3 + many
            top = form_top(handles, many)
            for form in count_forms(handles, many):
                self.assertEqual(form.part(depth), top)
            self.assertTrue(all([number[0] > 0 for number in top.terms.values()]))
            self.assertEqual(len(top), len([row for row in exponents(many, depth) if sum(row) == depth]))
            for order in list(itertools.permutations(range(many)))[:24]:
                self.assertEqual(top.exchanged(order), top)

    def test_judging(self):
        for handles, many in PAIRS:
            for odd in range(0, many + 1, 2):
                form = count_form(handles, many, odd)
                again = Formula(many, form.terms)
                self.assertIs(is_count_form(handles, many, odd, form), True)
                self.assertIs(is_count_form(handles, many, odd, again), True)
                self.assertIs(is_count_form(handles, many, odd, form.plus(Formula(many, {(0,) * many: (1, 10 ** 9)}))), False)
                self.assertIs(is_count_form(handles, many, odd, form.scaled(2)), False)
        self.judges_kinds(lambda value: is_count_form(0, 3, 0, value), lambda value: value == Formula(3, {(0, 0, 0): 1}))
        self.judges_kinds(lambda value: is_count_form(1, 1, 0, value), lambda value: False)
        self.assertIs(is_count_form(0, 4, 0, count_form(0, 4, 2)), False)
        self.assertIs(is_count_form(0, 4, 0, count_form(0, 4, 4)), True)
        self.assertIs(is_count_form(0, 3, 0, Formula(4, {(0, 0, 0, 0): 1})), False)

    def test_not_true(self):
        self.assertEqual(count(0, (1, 1, 1, 1)), (0, 1))
        form = count_form(1, 2, 0)
        self.assertNotEqual(value(form, (3, 5)), count_by_words(1, (3, 5)))


class Counts(unittest.TestCase):
    def test_counts(self):
        for handles, rims in some_rims(17):
            self.assertEqual(count(handles, rims), fraction_pair(count_by_words(handles, rims)))
            self.assertEqual(count(handles, rims), extended_count(handles, rims))

    def test_sequence(self):
        source = random.Random(61)
        for handles, many in PAIRS:
            for _ in range(5):
                rims = [source.randint(0, 10 ** source.randint(1, 20)) for _ in range(many)]
                other = tuple(source.sample(rims, many))
                self.assertEqual(extended_count(handles, tuple(rims)), extended_count(handles, other))
                rims = [length + 1 for length in rims]
                self.assertEqual(count(handles, tuple(rims)), count(handles, tuple(source.sample(rims, many))))

    def test_extended_counts(self):
        source = random.Random(62)
        for handles, many in PAIRS:
            for _ in range(8):
                rims = tuple([source.choice((0, 0, 1, 2, 3, 8, 17, 10 ** 30 + 1)) for _ in range(many)])
                self.assertEqual(extended_count(handles, rims), fraction_pair(value_by_words(handles, rims)))

    def test_long_lengths(self):
        for handles, many in PAIRS:
            for last in (LONG - 1, LONG - 2):
                rims = (LONG - 3, 1, LONG - 2, LONG - 1, 2)[:many - 1] + (last,) if many < 6 else (LONG - 2,) * 6
                self.assertEqual(count(handles, rims), fraction_pair(value_by_words(handles, rims)))
        self.assertEqual(count(1, (10 ** 9,)), (83333333333333333, 4))
        self.assertEqual(count(0, (LONG - 1, LONG - 1, LONG - 2)), (1, 1))

    def test_zeros(self):
        self.assertEqual(extended_count(0, (0, 0, 0)), (1, 1))
        for handles, many in PAIRS:
            if (handles, many + 1) in PAIRS:
                less = Fraction(*extended_count(handles, (0,) * many))
                more = Fraction(*extended_count(handles, (0,) * (many + 1)))
                self.assertEqual(more, (2 - 2 * handles - many) * less)
        told = [extended_count(1, (0,)), extended_count(2, (0,)), extended_count(0, (0,) * 6), extended_count(1, (0,) * 5)]
        self.assertEqual(told, [(-1, 12), (1, 120), (-6, 1), (-2, 1)])

    def test_odd_sums(self):
        for handles, many in PAIRS:
            self.assertEqual(count(handles, (1,) + (2,) * (many - 1)), (0, 1))
            self.assertEqual(extended_count(handles, (1,) + (0,) * (many - 1)), (0, 1))


class OneRimMore(unittest.TestCase, Refusing):
    def sum_by_words(self, handles, rims):
        """S of [10.5]."""
        found = Fraction(0)
        for j, length in enumerate(rims):
            for k in range(1, length):
                found += k * Fraction(*count(handles, rims[:j] + (k,) + rims[j + 1:]))
        return found

    def test_sums(self):
        for handles, rims in some_rims(13, 4):
            self.assertEqual(sum_below(handles, rims), fraction_pair(self.sum_by_words(handles, rims)))
        for handles, rims in ((1, (40,)), (1, (39, 40)), (0, (40, 1, 40)), (2, (40,))):
            self.assertEqual(sum_below(handles, rims), fraction_pair(self.sum_by_words(handles, rims)))
        self.assertEqual([sum_below(1, (1,)), sum_below(0, (1, 1, 1)), sum_below(0, (2, 2, 2))], [(0, 1), (0, 1), (0, 1)])

    def test_one_rim_more(self):
        for handles, rims in some_rims(19, 5):
            many = len(rims)
            if (handles, many + 1) not in PAIRS:
                continue
            told = Fraction(*sum_below(handles, rims))
            if sum(rims) % 2:
                self.assertEqual(Fraction(*count(handles, rims + (1,))), told)
                continue
            number = Fraction(*count(handles, rims))
            told += number * sum(rims) / 2
            self.assertEqual(Fraction(*count(handles, rims + (2,))), told)
            told -= (2 * handles - 2 + many) * number
            self.assertEqual(Fraction(*extended_count(handles, rims + (0,))), told)

    def test_lengths(self):
        for handles, many in PAIRS:
            self.assertIsNone(raised(sum_below, handles, (40,) + (1,) * (many - 1)))
            for wrong in (41, 1000, LONG - 1):
                self.refuses(InvalidRims, sum_below, handles, (1,) * (many - 1) + (wrong,))
        # A length above 40 counts ahead of what is told with "then".
        self.refuses(InvalidRims, sum_below, 0, (41,))
        self.refuses(InvalidRims, sum_below, 3, (41,))
        self.refuses(InvalidNumber, sum_below, -1, (41,), given=-1)


class Errors(unittest.TestCase, Refusing):
    def test_constants(self):
        self.assertEqual((forms.MAX_DEPTH, forms.MAX_SUMMED), (5, 40))

    def test_numbers_of_odd_lengths(self):
        for call in (count_form, lambda handles, many, odd: is_count_form(handles, many, odd, None)):
            for many in range(1, 9):
                for handles in (0, 1, 2, 7):
                    for odd in range(-3, 11):
                        if odd % 2 or not 0 <= odd <= many:
                            self.refuses(InvalidNumber, call, handles, many, odd, given=odd)
                            continue
                        if handles == 0 and many < 3:
                            self.refuses(Refused, call, handles, many, odd, reason=("pair",))
                        elif (handles, many) not in PAIRS:
                            self.refuses(TooMany, call, handles, many, odd, limit=5)
                        else:
                            self.assertIsNone(raised(call, handles, many, odd))
            for wrong in kinds():
                if type(wrong) is not int:
                    with self.subTest(wrong=short(wrong)):
                        self.assertIs(self.refuses(InvalidNumber, call, 0, 1, wrong).given, wrong)
            self.refuses(InvalidNumber, call, 0, 9, 1, given=9)
            self.refuses(InvalidNumber, call, -1, 9, 1, given=-1)
            self.refuses(InvalidNumber, call, 0, 4, False, given=False)

    def test_pairs(self):
        for call in (count_forms, form_top, lambda handles, many: count(handles, (1,) * many),
                     lambda handles, many: extended_count(handles, (0,) * many),
                     lambda handles, many: sum_below(handles, (1,) * many)):
            for pair in PAIRS:
                self.assertIsNone(raised(call, *pair))
            for pair in BEYOND:
                self.refuses(TooMany, call, *pair, limit=5)
            for many in (1, 2):
                self.refuses(Refused, call, 0, many, reason=("pair",))
            self.refuses(InvalidNumber, call, -1, 3, given=-1)
        for call in (count_forms, form_top):
            self.refuses(InvalidNumber, call, 0, 0, given=0)
            self.refuses(InvalidNumber, call, 3, 9, given=9)

    def test_rims(self):
        for call in (count, extended_count, sum_below):
            for wrong in ((), (-1,), (1,) * 9, [2, 2], (2, True), (2, (2, 1)), None, (LONG,), 3):
                self.refuses(InvalidRims, call, 0, wrong)
                self.refuses(InvalidRims, call, 9, wrong)
        for wrong in ((0,), (2, 2, 0), (0, 0, 0)):
            self.refuses(InvalidRims, count, 0, wrong)
            self.refuses(InvalidRims, sum_below, 0, wrong)
        self.refuses(Refused, extended_count, 0, (0,), reason=("pair",))
        self.assertEqual(extended_count(0, (2, 2, 0)), (1, 1))
        self.assertEqual(extended_count(0, (0, 1, 0)), (0, 1))
