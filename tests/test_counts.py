"""[0.15] to [0.19] and [7.4]: one count, told by lists, by pairings, by the recursion and by the forms."""

import itertools
import random
import unittest
from fractions import Fraction

from bandrims.bands.codes import symmetry_number
from bandrims.bands.webs import rim_lengths
from bandrims.lots.lists import full_webs, web_numbers, web_sum
from bandrims.sides.pairings import count_by_pairings
from bandrims.sides.solutions import count_by_lists
from bandrims.tables.forms import count, count_form, extended_count
from bandrims.tables.recursion import count_by_rims
from tests.test_changes import LISTED
from tests.test_recursion import PAIRS, some_rims
from tests.test_solutions import fraction_pair


def all_rims(many, most):
    """All tuples of so many lengths with a sum of at most so much."""
    return [rims for rims in itertools.product(range(1, most + 1), repeat=many) if sum(rims) <= most]


def compositions(whole, many):
    """All tuples of so many integers from 1 on with a sum."""
    if many == 1:
        return [(whole,)] if whole >= 1 else []
    return [(first,) + rest for first in range(1, whole) for rest in compositions(whole - first, many - 1)]


class Counts(unittest.TestCase):
    def test_small_lengths_in_four_ways(self):
        for handles, many in LISTED:
            for rims in all_rims(many, 10 if many < 4 else 9)[::1 if many < 3 else 3]:
                told = count(handles, rims)
                self.assertEqual(count_by_rims(handles, rims), told)
                self.assertEqual(count_by_lists(handles, rims), told)
                self.assertEqual(count_by_pairings(handles, rims), told)

    def test_pairings_of_pairs_without_lists(self):
        for handles, rims in ((0, (1, 1, 1, 2, 5)), (0, (2, 2, 2, 2, 2)), (0, (1, 1, 2, 3, 3)), (0, (1, 1, 1, 1, 1, 5)),
                              (0, (1, 1, 2, 2, 2, 4)), (1, (4, 3, 3)), (1, (1, 1, 8)), (1, (1, 1, 4, 6)), (2, (6, 6)),
                              (2, (1, 11)), (1, (2, 2, 2, 3, 3)), (1, (1, 1, 1, 1, 8))):
            told = count(handles, rims)
            self.assertEqual(count_by_rims(handles, rims), told)
            self.assertEqual(count_by_pairings(handles, rims), told)

    def test_lists_of_long_sums(self):
        for handles, rims in ((0, (9, 10, 11)), (0, (7, 7, 8, 8)), (0, (1, 9, 9, 11)), (1, (30,)), (1, (13, 15)), (1, (14, 16)),
                              (2, (30,)), (2, (24,)), (0, (5, 5, 5, 5)), (1, (1, 29)), (2, (29,))):
            told = count(handles, rims)
            self.assertEqual(count_by_lists(handles, rims), told)
            self.assertEqual(count_by_rims(handles, rims), told)

    def test_recursion_and_forms(self):
        for most in (26, 40):
            for handles, rims in some_rims(most, 3):
                self.assertEqual(count_by_rims(handles, rims), count(handles, rims))

    def test_by_words(self):
        # [0.15]: all whole lengths of all full webs, each divided by the number of symmetries.
        for handles, many in ((0, 3), (1, 1), (1, 2)):
            for half in range(1, 9):
                found = {}
                for web in full_webs(handles, many):
                    for lengths in compositions(half, len(web)):
                        rims = tuple([top for top, _ in rim_lengths(web, lengths)])
                        found[rims] = found.get(rims, 0) + Fraction(1, symmetry_number(web))
                for rims in all_rims(many, 2 * half):
                    if sum(rims) == 2 * half:
                        self.assertEqual(count(handles, rims), fraction_pair(found.get(rims, 0)))

    def test_signs(self):
        for handles, many in LISTED:
            told = Fraction(0)
            for ties in web_numbers(handles, many):
                told += (-1) ** (ties + many) * Fraction(*web_sum(handles, many, ties))
            self.assertEqual(extended_count(handles, (0,) * many), fraction_pair(told))
            self.assertEqual(count_form(handles, many, 0).coefficient((0,) * many), fraction_pair(told))

    def test_not_true(self):
        self.assertEqual(count(1, (4,)), (1, 4))
        self.assertEqual(count(0, (1, 1, 1, 1)), (0, 1))
        self.assertNotEqual(count_form(0, 4, 0), count_form(0, 4, 2))

    def test_sequence_of_the_lengths(self):
        source = random.Random(81)
        for handles, many in LISTED:
            for _ in range(3):
                rims = [source.randint(1, 12 // many) for _ in range(many)]
                other = tuple(source.sample(rims, many))
                for call in (count_by_lists, count_by_pairings, count_by_rims, count):
                    self.assertEqual(call(handles, tuple(rims)), call(handles, other))

    def test_all_pairs_of_polynomials(self):
        for handles, many in PAIRS:
            self.assertEqual(count(handles, (4,) * many), count_by_rims(handles, (4,) * many))
