"""[14.1] to [14.5]: sums with signs."""

import unittest
from fractions import Fraction
from math import factorial

from bandrims.base.numbers import bernoulli
from bandrims.bands.codes import symmetry_number
from bandrims.errors import InvalidNumber, Refused, TooMany
from bandrims.lots.lists import full_webs, web_numbers, web_sum
from bandrims.signs import euler
from bandrims.signs.euler import euler_number, one_rim_sum, signed_sum, tie_sums, zero_value
from bandrims.signs.onerim import full_gluings
from bandrims.tables.forms import count_form, extended_count
from tests.kinds import LONG, Refusing
from tests.test_changes import LISTED
from tests.test_recursion import BEYOND, PAIRS
from tests.test_solutions import fraction_pair


def number_by_words(g, n):
    """X(g, n), step by step."""
    if (g, n) == (0, 3):
        return Fraction(1)
    if g > 0 and n == 1:
        return -Fraction(*bernoulli(2 * g)) / (2 * g)
    if n == 0:
        return number_by_words(g, 1) / (2 - 2 * g)
    return (2 - 2 * g - (n - 1)) * number_by_words(g, n - 1)


def is_told(g, n):
    """Whether there is an Euler number."""
    return 2 * g - 2 + n >= 1


class Numbers(unittest.TestCase, Refusing):
    def test_step_by_step(self):
        for g in range(21):
            for n in range(21):
                if is_told(g, n):
                    self.assertEqual(euler_number(g, n), fraction_pair(number_by_words(g, n)))

    def test_closed(self):
        for n in range(3, 21):
            self.assertEqual(euler_number(0, n), ((-1) ** (n - 3) * factorial(n - 3), 1))
        for g in range(1, 21):
            for n in range(0 if g > 1 else 1, 21):
                told = Fraction((-1) ** n * factorial(2 * g - 3 + n), factorial(2 * g - 2) * 2 * g)
                self.assertEqual(euler_number(g, n), fraction_pair(told * Fraction(*bernoulli(2 * g))))

    def test_not_true(self):
        self.assertEqual(euler_number(1, 1)[0], -1)
        self.assertEqual(euler_number(2, 1)[0], 1)
        self.assertEqual(sum([Fraction(*told) for told in tie_sums(1, 1).values()]), Fraction(5, 12))

    def test_bounds(self):
        self.assertEqual(euler.MAX_EULER, 20)
        for wrong in (-1, 21, True, None, "1", (1, 1), LONG, [1], 1.0):
            self.refuses(InvalidNumber, euler_number, wrong, -2, given=wrong)
            self.refuses(InvalidNumber, euler_number, wrong, 9, given=wrong)
            self.refuses(InvalidNumber, euler_number, 0, wrong, given=wrong)
            self.refuses(InvalidNumber, euler_number, 20, wrong, given=wrong)
        for pair in ((0, 0), (0, 1), (0, 2), (1, 0)):
            self.refuses(Refused, euler_number, *pair, reason=("pair",))
        self.assertEqual(euler_number(0, 20), (-factorial(17), 1))
        self.assertEqual(euler_number(20, 0), fraction_pair(number_by_words(20, 0)))


class Sums(unittest.TestCase, Refusing):
    def test_ties(self):
        for handles, many in LISTED:
            told = {}
            for web in full_webs(handles, many):
                told[len(web)] = told.get(len(web), 0) + Fraction(1, symmetry_number(web))
            found = tie_sums(handles, many)
            self.assertEqual(found, {ties: fraction_pair(told[ties]) for ties in told})
            self.assertEqual(list(found), list(range(2 * handles - 1 + many, 6 * handles - 5 + 3 * many)))
            self.assertEqual(list(found), list(web_numbers(handles, many)))
            for ties in found:
                self.assertEqual(found[ties], web_sum(handles, many, ties))

    def test_all_ways(self):
        for handles, many in LISTED:
            told = euler_number(handles, many)
            self.assertEqual(signed_sum(handles, many), told)
            whole = [(-1) ** (ties - many) * Fraction(*pair) for ties, pair in tie_sums(handles, many).items()]
            self.assertEqual(told, fraction_pair(sum(whole)))
        for handles, many in PAIRS:
            told = euler_number(handles, many)
            self.assertEqual(zero_value(handles, many), told)
            self.assertEqual(count_form(handles, many, 0).at((0,) * many), told)
            self.assertEqual(extended_count(handles, (0,) * many), told)

    def test_one_rim(self):
        for handles in range(1, 7):
            self.assertEqual(one_rim_sum(handles), euler_number(handles, 1))
            whole = [(-1) ** (ties - 1) * Fraction(full_gluings(handles, ties), 2 * ties)
                     for ties in range(2 * handles, 6 * handles - 2)]
            self.assertEqual(one_rim_sum(handles), fraction_pair(sum(whole)))
        self.assertEqual(one_rim_sum(1), signed_sum(1, 1))
        self.assertEqual(one_rim_sum(2), zero_value(2, 1))

    def test_forms_with_odd_lengths(self):
        # [14.3]: their values at 0 can be other ones.
        self.assertNotEqual(count_form(0, 4, 2).at((0,) * 4), zero_value(0, 4))

    def test_pairs(self):
        for call in (tie_sums, signed_sum):
            for pair in [pair for pair in PAIRS + BEYOND if pair not in LISTED]:
                self.refuses(TooMany, call, *pair, limit=4)
        for pair in BEYOND:
            self.refuses(TooMany, zero_value, *pair, limit=5)
        for call in (tie_sums, signed_sum, zero_value):
            for many in (1, 2):
                self.refuses(Refused, call, 0, many, reason=("pair",))
            for wrong in (-1, True, None, "1", (1, 1), LONG):
                self.refuses(InvalidNumber, call, wrong, 0, given=wrong)
            for wrong in (0, 9, -1, True, None, (3, 1)):
                self.refuses(InvalidNumber, call, 0, wrong, given=wrong)

    def test_one_rim_bounds(self):
        for wrong in (0, 7, -1, True, None, "1", (1, 1), LONG):
            self.refuses(InvalidNumber, one_rim_sum, wrong, given=wrong)
