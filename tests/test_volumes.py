"""[12.1] to [12.8]: volumes."""

import itertools
import random
import unittest
from fractions import Fraction
from math import factorial

from bandrims.base.formulas import Formula, fitted, is_symmetric
from bandrims.errors import InvalidNumber, InvalidOperation, InvalidRims, Refused, TooMany
from bandrims.tables.forms import count, count_form, form_top
from bandrims.tops import volumes
from bandrims.tops.tau import tau_number
from bandrims.tops.volumes import grown, short_rim_form, volume, volume_form, volume_number, zero_rim_form
from tests.kinds import LONG, Refusing, kinds, raised, short
from tests.specs import is_length_up_to, is_row, row_from
from tests.test_forms import exponents, value
from tests.test_recursion import BEYOND, PAIRS
from tests.test_solutions import fraction_pair
from tests.test_tau import tau_by_words

# The pairs for which the pair with one rim more is one of polynomials, too.
GROWING = [(handles, many) for handles, many in PAIRS if (handles, many + 1) in PAIRS]


def depth(handles, many):
    """The depth of a pair."""
    return 3 * handles - 3 + many


def terms_by_words(handles, many):
    """The terms of [12.1]."""
    found = {}
    for row in exponents(many, depth(handles, many)):
        if sum(row) == depth(handles, many):
            number = tau_by_words(row) / 2 ** (5 * handles - 6 + 2 * many)
            for exponent in row:
                number /= factorial(exponent)
            found[row] = fraction_pair(number)
    return found


def without_last(formula):
    """The formula in one letter less, the last letter standing in no term."""
    assert all([row[-1] == 0 for row in formula.terms])
    return Formula(formula.letters - 1, {row[:-1]: number for row, number in formula.terms.items()})


class Forms(unittest.TestCase, Refusing):
    def test_by_words(self):
        for handles, many in PAIRS:
            form = volume_form(handles, many)
            self.assertIs(type(form), Formula)
            self.assertEqual((form.letters, form.terms), (many, terms_by_words(handles, many)))
            self.assertEqual((form.degree, is_symmetric(form)), (depth(handles, many), True))
            self.assertEqual(list(form.terms), sorted(form.terms))
            for row, number in form.terms.items():
                self.assertEqual(sum(row), depth(handles, many))
                self.assertGreater(number[0], 0)

    def test_numbers_of_tau(self):
        for row, number in volume_form(1, 4).terms.items():
            told = Fraction(*tau_number(row)) / 2 ** 7
            for exponent in row:
                told /= factorial(exponent)
            self.assertEqual(number, fraction_pair(told))

    def test_parts_of_count_forms(self):
        for handles, many in PAIRS:
            form = volume_form(handles, many)
            self.assertEqual(form, form_top(handles, many))
            for odd in range(0, many + 1, 2):
                self.assertEqual(count_form(handles, many, odd).part(depth(handles, many)), form)

    def test_one_rim(self):
        for handles in (1, 2):
            bottom = 24 ** handles * factorial(handles) * factorial(3 * handles - 2) * 2 ** (5 * handles - 4)
            self.assertEqual(volume_form(handles, 1).terms, {(3 * handles - 2,): (1, bottom)})

    def test_pairs(self):
        for call in (volume_form, zero_rim_form, short_rim_form, lambda g, n: grown(g, n, 2)):
            for handles, many in PAIRS:
                self.assertEqual(call(handles, many).letters, many)
            for pair in BEYOND:
                self.refuses(TooMany, call, *pair, limit=5)
            for many in (1, 2):
                self.refuses(Refused, call, 0, many, reason=("pair",))
            self.refuses(InvalidNumber, call, -1, 0, given=-1)
            self.refuses(InvalidNumber, call, 0, 9, given=9)

    def test_not_true(self):
        self.assertEqual(count_form(1, 1, 0).terms, {(0,): (-1, 12), (1,): (1, 48)})


class Numbers(unittest.TestCase, Refusing):
    def test_numbers(self):
        for handles, many in PAIRS:
            form = volume_form(handles, many)
            for row in exponents(many, depth(handles, many) + 1):
                self.assertEqual(volume_number(handles, row), form.coefficient(row))
        self.assertEqual(volume_number(1, (60,)), (0, 1))
        self.assertEqual(volume_number(0, (60,) * 6), (0, 1))

    def test_exponents(self):
        right = row_from(0, 60)
        for value_of_kind in kinds():
            error = raised(volume_number, 1, value_of_kind)
            told = type(None)
            if not right(value_of_kind):
                told = InvalidOperation
            elif len(value_of_kind) > 5:
                told = TooMany
            with self.subTest(value=short(value_of_kind)):
                self.assertIs(type(error), told)
        for wrong in ((61,), (0, 61), (-1,), (), (0,) * 9, [0], (True,), (0, LONG), ((1, 1),), 1, None):
            self.refuses(InvalidOperation, volume_number, 1, wrong)

    def test_order_of_errors(self):
        self.refuses(InvalidNumber, volume_number, -1, (61,), given=-1)
        self.refuses(InvalidOperation, volume_number, 0, (61,))
        self.refuses(Refused, volume_number, 0, (0, 60), reason=("pair",))
        self.refuses(TooMany, volume_number, 3, (60,), limit=5)
        self.refuses(TooMany, volume_number, 0, (0,) * 7, limit=5)
        self.refuses(TooMany, volume_number, 1, (0,) * 6, limit=5)


class Volumes(unittest.TestCase, Refusing):
    def lengths(self, many, source):
        """Lengths, integers and fractions, 0 and the longest ones among them."""
        choices = [0, 1, 2, (0, 1), (3, 1), (1, 2), (7, 3), (1, 10 ** 70), 10 ** 18, (10 ** 18, 1), (10 ** 19 - 1, 10)]
        return tuple([source.choice(choices) for _ in range(many)])

    def test_values(self):
        source = random.Random(121)
        for handles, many in PAIRS:
            for _ in range(6):
                lengths = self.lengths(many, source)
                told = [Fraction(*length) if type(length) is tuple else Fraction(length) for length in lengths]
                self.assertEqual(volume(handles, lengths), fraction_pair(value(volume_form(handles, many), told)))

    def test_counts_come_near(self):
        # [12.3]: N(g; m b) is a polynomial of m with the volume as its first number.
        source = random.Random(122)
        for handles, many in PAIRS:
            top = 2 * depth(handles, many)
            rims = tuple([source.randint(1, 5) for _ in range(many)])
            counts = {m: count(handles, tuple([m * length for length in rims])) for m in range(2, 2 * top + 6, 2)}
            form = fitted(counts)
            self.assertEqual(form.degree, top)
            self.assertEqual(form.coefficient((top,)), volume(handles, rims))

    def test_near(self):
        last = None
        for m in (10 ** 3, 10 ** 6, 10 ** 9):
            gap = Fraction(*count(1, (3 * m, m))) / m ** 4 - Fraction(*volume(1, (3, 1)))
            self.assertLess(abs(gap), Fraction(1, m))
            self.assertTrue(last is None or abs(gap) < last)
            last = abs(gap)

    def test_edges(self):
        most = 10 ** 18
        self.assertEqual(volumes.MOST_LENGTH, most)
        for right in (0, most, (0, 1), (most, 1), (most * 10 ** 60 - 1, 10 ** 60)):
            self.assertIsNone(raised(volume, 1, (right, 1)))
        for wrong in (-1, most + 1, (-1, 2), (most + 1, 1), (most * 10 ** 60 + 1, 10 ** 60), (2, 4), True, None, "1", (1, 0)):
            self.refuses(InvalidRims, volume, 1, (1, wrong))
            self.refuses(InvalidRims, volume, 1, (wrong, 1))
        self.assertEqual(volume(1, (0,)), (0, 1))
        self.assertEqual(volume(0, (0, 0, 0)), (1, 1))
        self.assertEqual(volume(1, (most,)), fraction_pair(Fraction(most ** 2, 48)))

    def test_lengths(self):
        right = is_length_up_to(10 ** 18)
        for value_of_kind in kinds():
            told = type(None)
            if not right(value_of_kind):
                told = InvalidRims
            elif len(value_of_kind) > 5:
                told = TooMany
            with self.subTest(value=short(value_of_kind)):
                self.assertIs(type(raised(volume, 1, value_of_kind)), told)

    def test_order_of_errors(self):
        self.refuses(InvalidNumber, volume, -1, (-1,), given=-1)
        self.refuses(InvalidNumber, volume, True, (-1,), given=True)
        self.refuses(InvalidRims, volume, 0, (-1,))
        self.refuses(InvalidRims, volume, 9, ())
        self.refuses(InvalidRims, volume, 9, (0,) * 9)
        self.refuses(Refused, volume, 0, (1, 1), reason=("pair",))
        self.refuses(TooMany, volume, 0, (1,) * 7, limit=5)
        self.refuses(TooMany, volume, 0, (1,) * 8, limit=5)
        self.refuses(TooMany, volume, 2, (1,) * 3, limit=5)


class OneRimMore(unittest.TestCase):
    def test_zero_rim(self):
        for handles, many in GROWING:
            told = without_last(volume_form(handles, many + 1).fixed(many, 0))
            self.assertEqual(zero_rim_form(handles, many), told)
            self.assertIs(type(zero_rim_form(handles, many)), Formula)

    def test_zero_rim_by_words(self):
        # Also where the volume form of one rim more is beyond.
        for handles, many in PAIRS:
            told = Formula(many, {})
            for k in range(many):
                grow = {row[:k] + (row[k] + 1,) + row[k + 1:]: fraction_pair(Fraction(*number) / (row[k] + 1) / 4)
                        for row, number in volume_form(handles, many).terms.items()}
                told = told.plus(Formula(many, grow))
            self.assertEqual(zero_rim_form(handles, many), told)

    def test_short_rim(self):
        for handles, many in GROWING:
            once = {row[:-1]: number for row, number in volume_form(handles, many + 1).terms.items() if row[-1] == 1}
            self.assertEqual(short_rim_form(handles, many), Formula(many, once))

    def test_short_rim_by_words(self):
        for handles, many in PAIRS:
            told = volume_form(handles, many).scaled(fraction_pair(Fraction(2 * handles - 2 + many, 4)))
            self.assertEqual(short_rim_form(handles, many), told)


class Growing(unittest.TestCase, Refusing):
    def test_derivatives(self):
        # [12.6]: each term has the degree of the depth, so each derivative adds up to it.
        for handles, many in PAIRS:
            form = volume_form(handles, many)
            told = Formula(many, {})
            for k in range(many):
                told = told.plus(Formula(many, {row: fraction_pair(Fraction(*number) * row[k])
                                                for row, number in form.terms.items()}))
            self.assertEqual(told, form.scaled(depth(handles, many)))

    def test_values(self):
        source = random.Random(123)
        for handles, many in PAIRS:
            for number in (0, 1, -1, 2, (1, 2), (-7, 3), (0, 1), LONG - 1, (10 ** 70, 3)):
                form = grown(handles, many, number)
                self.assertIs(type(form), Formula)
                factor = Fraction(*number) if type(number) is tuple else Fraction(number)
                lengths = [source.randint(1, 5) for _ in range(many)]
                told = value(volume_form(handles, many), [factor * length for length in lengths])
                self.assertEqual(value(form, lengths), told)
                self.assertEqual(form.letters, many)

    def test_nothing(self):
        self.assertEqual(str(grown(0, 3, 0)), "1")
        self.assertEqual(str(grown(1, 1, (0, 1))), "0")
        self.assertEqual(grown(1, 2, -3), grown(1, 2, 3))

    def test_errors(self):
        for wrong in (True, None, "1", (2, 4), (1, 0), (1, -2), LONG, [1, 2], (1,)):
            self.refuses(InvalidNumber, grown, 0, 3, wrong, given=wrong)
            self.refuses(InvalidNumber, grown, 0, 2, wrong, given=wrong)
            self.refuses(InvalidNumber, grown, 3, 1, wrong, given=wrong)
            self.refuses(InvalidNumber, grown, 0, 0, wrong, given=0)
            self.refuses(InvalidNumber, grown, -1, 0, wrong, given=-1)
        self.refuses(Refused, grown, 0, 2, 1, reason=("pair",))
        self.refuses(TooMany, grown, 3, 1, 1, limit=5)


class Sequences(unittest.TestCase):
    def test_lengths_in_all_sequences(self):
        for order in itertools.permutations((1, 2, (5, 2))):
            self.assertEqual(volume(1, order), volume(1, (1, 2, (5, 2))))
        for row in ((2, 1, 0), (1, 0, 2), (0, 2, 1)):
            self.assertEqual(volume_number(1, row), volume_number(1, (0, 1, 2)))
        self.assertTrue(is_row(0)((0, 1, 2)))
