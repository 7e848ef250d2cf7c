"""[0.15] to [0.20]: each number, told in all of its ways, for all pairs; the ways share nothing."""

import itertools
import random
import unittest
from fractions import Fraction
from math import factorial

from bandrims.bands.changes import flips_between, is_flips
from bandrims.bands.codes import symmetry_number
from bandrims.base.formulas import Formula
from bandrims.lots.lists import full_webs, threes_webs
from bandrims.nodes.pieces import all_joined, closed_euler, joined_count, joined_form, joined_terms
from bandrims.sides.pairings import count_by_pairings
from bandrims.sides.solutions import count_by_lists, web_count
from bandrims.signs.euler import euler_number, one_rim_sum, signed_sum, tie_sums, zero_value
from bandrims.signs.onerim import bare_gluings, full_gluings
from bandrims.tables.forms import count, count_form, count_forms, extended_count, form_top
from bandrims.tables.recursion import count_by_rims
from bandrims.tops.tau import tau_by_rules, tau_number, tau_row
from bandrims.tops.threes import tau_by_threes, tau_sum, threes_sum
from bandrims.tops.volumes import volume_form
from bandrims.wide.borders import wide_by_tau, wide_form
from tests.test_borders import WIDE
from tests.test_changes import LISTED
from tests.test_pieces import SMALL
from tests.test_recursion import PAIRS
from tests.test_solutions import fraction_pair


def some_rims(many, most, source):
    """Lengths of so many rims with an even sum of at most so much."""
    rims = [1] * many
    whole = 2 * source.randint((many + 1) // 2, most // 2)
    for _ in range(whole - many):
        rims[source.randrange(many)] += 1
    return tuple(rims)


class Counts(unittest.TestCase):
    def test_short_sums(self):
        source = random.Random(201)
        for handles, many in PAIRS:
            for _ in range(3):
                rims = some_rims(many, 10, source)
                told = {count(handles, rims), count_by_rims(handles, rims), count_by_pairings(handles, rims),
                        extended_count(handles, rims)}
                if (handles, many) in LISTED:
                    told |= {count_by_lists(handles, rims)}
                    whole = sum([Fraction(*web_count(web, rims)) for web in full_webs(handles, many)])
                    told |= {fraction_pair(whole)}
                if (handles, many) in SMALL:
                    bare = [k for k, joined in enumerate(all_joined(handles, many)) if not joined.nodes]
                    told |= {joined_terms(handles, rims)[bare[0]]}
                if many == 1 and handles > 0:
                    told |= {fraction_pair(Fraction(bare_gluings(handles, rims[0] // 2), rims[0]))}
                self.assertEqual(len(told), 1, (handles, rims, told))

    def test_odd_sums(self):
        source = random.Random(202)
        for handles, many in PAIRS:
            rims = some_rims(many, 10, source)
            rims = (rims[0] + 1,) + rims[1:]
            calls = [count, count_by_rims, count_by_pairings, extended_count]
            calls += [count_by_lists] if (handles, many) in LISTED else []
            calls += [joined_count] if (handles, many) in SMALL else []
            self.assertEqual({call(handles, rims) for call in calls if sum(rims) <= 12}, {(0, 1)})

    def test_long_sums(self):
        source = random.Random(203)
        for handles, many in PAIRS:
            for most, calls in ((30, [count_by_lists] if (handles, many) in LISTED else []), (40, [count_by_rims])):
                rims = some_rims(many, most, source)
                for call in calls:
                    self.assertEqual(call(handles, rims), count(handles, rims))


class Tops(unittest.TestCase):
    def test_tops(self):
        # [0.17]: the greatest parts of all forms are one; tau numbers, volumes and wide forms tell it.
        for handles, many in PAIRS:
            depth = 3 * handles - 3 + many
            top = volume_form(handles, many)
            self.assertEqual(form_top(handles, many), top)
            for form in count_forms(handles, many):
                self.assertEqual(form.part(depth), top)
            for row, number in top.terms.items():
                told = Fraction(*tau_row(handles, many)[tuple(sorted(row, reverse=True))]) / 2 ** (5 * handles - 6 + 2 * many)
                for exponent in row:
                    told /= factorial(exponent)
                self.assertEqual(number, fraction_pair(told))
            if (handles, many) in SMALL:
                for odd in range(0, many + 1, 2):
                    self.assertEqual(joined_form(handles, many, odd).part(depth), top)
            if (handles, many) in WIDE:
                times = fraction_pair(Fraction(2) ** (2 * handles - 3 + many))
                for form in (wide_form(handles, many), wide_by_tau(handles, many)):
                    bare = {row[:-1]: number for row, number in form.terms.items() if row[-1] == 0}
                    self.assertEqual(Formula(many, bare), top.scaled(times))

    def test_tau_numbers(self):
        for handles, many in PAIRS:
            depth = 3 * handles - 3 + many
            for row, number in tau_row(handles, many).items():
                self.assertEqual(tau_number(row), number)
                if tau_by_rules(row) is not None:
                    self.assertEqual(tau_by_rules(row), number)
                if (handles, many) in LISTED:
                    self.assertEqual(tau_by_threes(row), number)
                self.assertEqual(sum(row), depth)

    def test_sums_over_webs_of_threes(self):
        for handles, many in LISTED:
            for values in itertools.islice(itertools.permutations((1, 2, (1, 3), (5, 2), 7), many), 4):
                self.assertEqual(threes_sum(handles, many, values), tau_sum(handles, many, values))


class Signs(unittest.TestCase):
    def test_signs(self):
        # [0.18]
        for handles, many in PAIRS:
            zeros = (0,) * many
            told = {euler_number(handles, many), zero_value(handles, many), extended_count(handles, zeros),
                    count_form(handles, many, 0).at(zeros)}
            if (handles, many) in LISTED:
                whole = sum([Fraction((-1) ** (len(web) + many), symmetry_number(web)) for web in full_webs(handles, many)])
                told |= {signed_sum(handles, many), fraction_pair(whole)}
            if many == 1:
                told |= {one_rim_sum(handles)}
            self.assertEqual(len(told), 1, (handles, many, told))
            if (handles, many) in SMALL:
                self.assertEqual(closed_euler(handles, many), joined_count(handles, zeros))

    def test_gluings_and_lists(self):
        for handles in (1, 2):
            for ties, told in tie_sums(handles, 1).items():
                self.assertEqual(told, fraction_pair(Fraction(full_gluings(handles, ties), 2 * ties)))


class Flips(unittest.TestCase):
    def test_flips(self):
        # [0.20]
        for pair in LISTED:
            webs = threes_webs(*pair)
            for web in webs[::5]:
                row = flips_between(webs[-1], web)
                self.assertTrue(is_flips(webs[-1], web, row))


class NotTrue(unittest.TestCase):
    def test_not_true(self):
        # [0.21]
        self.assertEqual(count(1, (4,)), (1, 4))
        self.assertEqual(count(0, (1, 1, 1, 1)), (0, 1))
        self.assertNotEqual(count_form(0, 4, 0), count_form(0, 4, 2))
        lots = {}
        for web in full_webs(0, 4):
            lots.setdefault((len(web), tuple([len(rim) for rim in web.rims])), []).append(web)
        self.assertTrue([lot for lot in lots.values() if len(lot) > 1])
