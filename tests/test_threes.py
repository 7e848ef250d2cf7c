"""[13.1] to [13.7]: sums over webs of threes."""

import itertools
import random
import unittest
from fractions import Fraction

from bandrims.bands.changes import flipped
from bandrims.bands.codes import are_alike, symmetry_number
from bandrims.bands.webs import Web
from bandrims.errors import InvalidNumber, InvalidOperation, InvalidWeb, Refused, TooMany
from bandrims.lots.lists import full_webs, threes_webs
from bandrims.tops.tau import tau_number
from bandrims.tops.threes import tau_by_threes, tau_sum, threes_sum, threes_terms, web_product
from tests.kinds import CROSS, LONG, RINGS, THETA, Refusing, kinds, raised, short
from tests.specs import as_fraction, is_numbers_above_0, is_row
from tests.test_changes import LISTED
from tests.test_codes import mixed
from tests.test_recursion import BEYOND, PAIRS
from tests.test_solutions import fraction_pair
from tests.test_tau import descending, handles_by_words, odd, tau_by_words
from tests.test_webs import some_webs

# The pairs of polynomials of which no lists are told.
UNLISTED = [pair for pair in PAIRS if pair not in LISTED]
WRONG = ((), (0, 1, 1), (1, 1, -1), (1, 1), (1, 1, 1, 1), (True, 1, 1), [1, 1, 1], (1, 1, (2, 4)), (1, 1, (1, 0)), (LONG, 1, 1),
         (1, 1, (0, 1)), (1, 1, (-1, 2)), None, 1, (1, 1, "1"), (1, 1, None))


def some_values(many, source):
    """Values for so many rims, integers and fractions."""
    choices = [1, 2, 3, 5, (1, 1), (4, 1), (1, 2), (7, 3), (2, 9)]
    return tuple([source.choice(choices) for _ in range(many)])


def product_by_words(web, values):
    """The product of [13.1]."""
    found = Fraction(1)
    for head in web.heads:
        i, j = web.sides_of(head)
        found /= as_fraction(values[i]) + as_fraction(values[j])
    return found


def rows(many, whole):
    """All tuples of so many integers from 0 on with a sum."""
    return [row for row in itertools.product(range(whole + 1), repeat=many) if sum(row) == whole]


def tau_sum_by_words(handles, many, values, tau=tau_by_words):
    """The tau sum of [13.3], with any numbers in the place of the tau numbers."""
    found = Fraction(0)
    for row in rows(many, 3 * handles - 3 + many):
        told = Fraction(tau(row))
        for exponent, value in zip(row, values):
            told *= odd(2 * exponent - 1) / as_fraction(value) ** (2 * exponent + 1)
        found += told
    return found


class Products(unittest.TestCase, Refusing):
    def test_products(self):
        source = random.Random(131)
        for web in [THETA, CROSS, RINGS, Web.bundle(8), Web.crossed(12), *some_webs()]:
            values = some_values(len(web.rims), source)
            self.assertEqual(web_product(web, values), fraction_pair(product_by_words(web, values)))

    def test_alike_webs(self):
        source = random.Random(132)
        for pair in LISTED:
            for web in full_webs(*pair)[::7]:
                other = mixed(web, source)
                values = some_values(pair[1], source)
                self.assertTrue(are_alike(web, other))
                self.assertEqual(web_product(web, values), web_product(other, values))

    def test_not_true(self):
        # A flip leads to another product.
        self.assertTrue(any([are_alike(flipped(THETA, end), RINGS) for end in range(6)]))
        self.assertNotEqual(web_product(THETA, (1, 2, 4)), web_product(RINGS, (1, 2, 4)))
        self.assertEqual(threes_sum(1, 2, (2, 3)), (109, 62208))

    def test_errors(self):
        for wrong in WRONG:
            self.refuses(InvalidOperation, web_product, THETA, wrong)
            self.refuses(InvalidWeb, web_product, None, wrong)
        right = is_numbers_above_0(1)
        for value in kinds():
            with self.subTest(value=short(value)):
                self.assertIs(type(raised(web_product, CROSS, value)), type(None) if right(value) else InvalidOperation)
        self.assertEqual(web_product(CROSS, ((1, 10 ** 80),)), (10 ** 160 // 4, 1))


class Sums(unittest.TestCase, Refusing):
    def test_terms(self):
        source = random.Random(133)
        for handles, many in LISTED:
            values = some_values(many, source)
            told = [fraction_pair(product_by_words(web, values) / symmetry_number(web)) for web in threes_webs(handles, many)]
            found = threes_terms(handles, many, values)
            self.assertIs(type(found), tuple)
            self.assertEqual(found, tuple(told))
            whole = sum([Fraction(*pair) for pair in found]) * 2 ** (2 * handles - 2 + many)
            self.assertEqual(threes_sum(handles, many, values), fraction_pair(whole))

    def test_threes_sums_are_tau_sums(self):
        source = random.Random(134)
        for handles, many in LISTED:
            for _ in range(8):
                values = some_values(many, source)
                self.assertEqual(threes_sum(handles, many, values), tau_sum(handles, many, values))

    def test_tau_sums(self):
        source = random.Random(135)
        for handles, many in PAIRS:
            for _ in range(3):
                values = some_values(many, source)
                self.assertEqual(tau_sum(handles, many, values), fraction_pair(tau_sum_by_words(handles, many, values)))

    def test_multiples(self):
        # [13.5]: c times the values divide both sums by c ** (2 D + n).
        for handles, many in PAIRS:
            for number in (Fraction(2), Fraction(3, 5)):
                values = tuple(range(1, many + 1))
                times = tuple([fraction_pair(number * value) for value in values])
                factor = number ** (2 * (3 * handles - 3 + many) + many)
                for call in (tau_sum, threes_sum) if (handles, many) in LISTED else (tau_sum,):
                    told = Fraction(*call(handles, many, values)) / factor
                    self.assertEqual(call(handles, many, times), fraction_pair(told))

    def test_exchanges(self):
        source = random.Random(136)
        for handles, many in PAIRS:
            values = tuple(range(2, many + 2))
            other = tuple(source.sample(values, many))
            self.assertEqual(tau_sum(handles, many, values), tau_sum(handles, many, other))
            if (handles, many) in LISTED:
                self.assertEqual(threes_sum(handles, many, values), threes_sum(handles, many, other))

    def test_one_rim(self):
        for handles in (1, 2):
            told = odd(6 * handles - 5) * Fraction(*tau_number((3 * handles - 2,)))
            self.assertEqual(threes_sum(handles, 1, (1,)), fraction_pair(told))

    def test_values(self):
        for call in (threes_terms, threes_sum, tau_sum):
            for wrong in WRONG:
                self.refuses(InvalidOperation, call, 0, 3, wrong)
                self.refuses(InvalidNumber, call, -1, 3, wrong, given=-1)
                self.refuses(InvalidNumber, call, 0, 9, wrong, given=9)
            # What is no pair, and what is beyond, is told behind the values.
            self.refuses(InvalidOperation, call, 0, 2, (1, 1, 1))
            self.refuses(InvalidOperation, call, 0, 7, (1, 1, 1))
            self.refuses(Refused, call, 0, 2, (1, 1), reason=("pair",))
            self.refuses(Refused, call, 0, 1, (1,), reason=("pair",))
            self.assertIsNone(raised(call, 0, 3, (LONG - 1, (1, 10 ** 80), (10 ** 80, 3))))

    def test_pairs(self):
        for handles, many in UNLISTED:
            for call in (threes_terms, threes_sum):
                self.refuses(TooMany, call, handles, many, (1,) * many, limit=4)
            self.assertIsNone(raised(tau_sum, handles, many, (1,) * many))
        for handles, many in BEYOND:
            for call in (threes_terms, threes_sum):
                self.refuses(TooMany, call, handles, many, (1,) * many, limit=4)
            self.refuses(TooMany, tau_sum, handles, many, (1,) * many, limit=5)


class Numbers(unittest.TestCase, Refusing):
    def test_numbers(self):
        for handles, many in LISTED:
            for row in rows(many, 3 * handles - 3 + many):
                self.assertEqual(tau_by_threes(row), tau_number(row))
                self.assertEqual(tau_by_threes(row), fraction_pair(tau_by_words(row)))

    def test_without_handles(self):
        several = 0
        for many in range(1, 9):
            for whole in list(range(8)) + [20]:
                for row in descending(many, whole)[:6]:
                    if handles_by_words(row) is None:
                        self.assertEqual(tau_by_threes(row), (0, 1))
                        several += 1
        self.assertGreater(several, 50)
        self.assertEqual(tau_by_threes((20,)), (0, 1))

    def test_no_other_numbers(self):
        # [13.6]: with any other numbers some tau sum is another one.
        for wrong in ({(2, 0): Fraction(1, 24), (1, 1): Fraction(1, 25)}, {(2, 0): Fraction(1, 25), (1, 1): Fraction(1, 24)},
                      {(2, 0): Fraction(1, 20), (1, 1): Fraction(1, 48)}):
            sums = [tau_sum_by_words(1, 2, values, lambda row: wrong[tuple(sorted(row, reverse=True))])
                    for values in ((1, 1), (1, 2), (1, 3))]
            self.assertNotEqual([fraction_pair(told) for told in sums],
                                [threes_sum(1, 2, values) for values in ((1, 1), (1, 2), (1, 3))])

    def test_errors(self):
        for value in kinds():
            told = type(None)
            if not is_row(0)(value):
                told = InvalidOperation
            elif sum(value) > 20:
                told = TooMany
            else:
                handles = handles_by_words(value)
                told = type(None) if handles is None or (handles, len(value)) in LISTED else TooMany
            with self.subTest(value=short(value)):
                self.assertIs(type(raised(tau_by_threes, value)), told)
        for wrong in ((), (-1,), (0,) * 9, [1, 1], (1, True), (1, (1, 1)), None, (LONG,), 1, (21, -1)):
            self.refuses(InvalidOperation, tau_by_threes, wrong)

    def test_edges(self):
        for wrong in ((21,), (22,), (20, 1), (LONG - 1,) * 8):
            self.refuses(TooMany, tau_by_threes, wrong, limit=20)
        for handles, many in [*UNLISTED, (0, 7), (0, 8), (1, 6), (2, 3), (3, 1)]:
            self.refuses(TooMany, tau_by_threes, (3 * handles - 3 + many,) + (0,) * (many - 1), limit=4)
        self.refuses(TooMany, tau_by_threes, (19,), limit=4)
