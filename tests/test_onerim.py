"""[15.1] to [15.7]: gluings of one rim."""

import itertools
import random
import types
import unittest
from collections import Counter
from fractions import Fraction
from math import comb

from bandrims.bands.codes import are_alike, symmetry_number
from bandrims.bands.webs import Web
from bandrims.errors import InvalidNumber, InvalidOperation, InvalidPairing, InvalidWeb
from bandrims.lots.lists import full_webs, web_sum
from bandrims.signs import onerim
from bandrims.signs.onerim import (
    bare_gluings, full_gluings, gluing_handles, gluing_of_web, gluing_pairings, gluing_row, gluing_value, gluings, is_gluing,
    turned, turns_of, web_of_gluing)
from bandrims.sides.pairings import pairings
from bandrims.tables.forms import count
from tests.kinds import CROSS, LONG, RINGS, THETA, Refusing, kinds
from tests.test_solutions import fraction_pair
from tests.test_tau import odd
from tests.test_webs import some_webs

KNOWN = {(0, 0): 1}


def number_by_words(g, e):
    """E(g, e) by [15.2]."""
    if g < 0 or e < 0:
        return 0
    if (g, e) not in KNOWN:
        told = 0
        if e > 0:
            told = 2 * (2 * e - 1) * number_by_words(g, e - 1)
            told += (2 * e - 1) * (e - 1) * (2 * e - 3) * number_by_words(g - 1, e - 2)
            assert told % (e + 1) == 0
            told //= e + 1
        KNOWN[(g, e)] = told
    return KNOWN[(g, e)]


def bare_by_words(g, e):
    """The number of [15.4]."""
    found = Fraction(0)
    for k in range(2 * g, e + 1):
        found += (-1) ** (e - k) * Fraction(e, k) * comb(e + k - 1, e - k) * number_by_words(g, k)
    return found


def full_by_words(g, e):
    """The number of [15.5]."""
    found = Fraction(0)
    for k in range(2 * g, e + 1):
        for j in range(e - k + 1):
            r = e - k - j
            found += Fraction(e, k) * number_by_words(g, k) * comb(k, j) * (-2) ** r * comb(2 * k - 1 + r, r)
    return found


def places_of(pairing):
    """The places of the web of a gluing."""
    left = set(range(len(pairing)))
    found = []
    while left:
        start = spot = min(left)
        found.append([])
        while spot in left:
            left.remove(spot)
            found[-1].append(spot)
            spot = (pairing[spot] + 1) % len(pairing)
        assert spot == start
    return found


def one_by_one(ties):
    """How many gluings there are with which numbers of handles, in all, bare ones, and full ones."""
    whole, bare, full = Counter(), Counter(), Counter()
    for pairing in gluing_pairings(ties):
        degrees = [len(place) for place in places_of(pairing)]
        handles = (ties + 1 - len(degrees)) // 2
        whole[handles] += 1
        bare[handles] += min(degrees) > 1
        full[handles] += min(degrees) > 2
    return whole, bare, full


def some_gluings():
    """Gluings of many ties, with and without turns."""
    source = random.Random(151)
    found = []
    for ties in (1, 2, 3, 5, 8, 12, 23, 24):
        for _ in range(4):
            sides = list(range(2 * ties))
            source.shuffle(sides)
            partner = {}
            for one, other in zip(sides[::2], sides[1::2]):
                partner[one], partner[other] = other, one
            found.append(tuple([partner[side] for side in range(2 * ties)]))
        found.append(tuple([(side + ties) % (2 * ties) for side in range(2 * ties)]))
        found.append(tuple([side + 1 - 2 * (side % 2) for side in range(2 * ties)]))
    for blocks in (2, 3, 4, 6, 12):
        # Some sides are glued within blocks of equally many: they can be turned by blocks.
        found.append(tuple([4 * block + partner for block in range(blocks) for partner in (2, 3, 0, 1)]))
        found.append(tuple([4 * block + partner for block in range(blocks) for partner in (3, 2, 1, 0)]))
    return found


class Numbers(unittest.TestCase, Refusing):
    def test_constants(self):
        told = (onerim.MOST_TIES, onerim.MOST_COLOURS, onerim.MOST_GLUED, onerim.MOST_LISTED)
        self.assertEqual(told, (100, 10 ** 6, 24, 6))

    def test_rows(self):
        for ties in range(101):
            row = gluing_row(ties)
            self.assertIs(type(row), tuple)
            self.assertEqual(row, tuple([number_by_words(g, ties) for g in range(ties // 2 + 1)]))
            self.assertEqual(sum(row), odd(2 * ties - 1))

    def test_numbers(self):
        for ties in (0, 1, 2, 3, 6, 7, 30, 99, 100):
            for handles in [0, 1, 2, 3, ties // 2, ties // 2 + 1, 50, 51, LONG - 1]:
                told = number_by_words(handles, ties) if 2 * handles <= ties else 0
                self.assertEqual(gluings(handles, ties), told)
                self.assertEqual(gluings(handles, ties) == 0, 2 * handles > ties)
        self.assertEqual([gluings(0, ties) for ties in range(7)], [1, 1, 2, 5, 14, 42, 132])

    def test_one_by_one(self):
        for ties in range(1, 7):
            whole, bare, full = one_by_one(ties)
            self.assertEqual(gluing_row(ties), tuple([whole[g] for g in range(ties // 2 + 1)]))
            for handles in range(1, 5):
                self.assertEqual(bare_gluings(handles, ties), bare[handles])
                self.assertEqual(full_gluings(handles, ties), full[handles])

    def test_bare_and_full(self):
        for ties in list(range(25)) + [33, 34, 60, 99, 100]:
            for handles in (1, 2, 3, 5, 6, 12, 50, 51, LONG - 1):
                bare, full = bare_gluings(handles, ties), full_gluings(handles, ties)
                self.assertEqual((type(bare), type(full)), (int, int))
                if handles < 60:
                    self.assertEqual((bare, full), (bare_by_words(handles, ties), full_by_words(handles, ties)))
                self.assertEqual(full > 0, 2 * handles <= ties <= 6 * handles - 3)
                self.assertEqual(bare > 0, 2 * handles <= ties)
                self.assertLessEqual(full, bare)
                self.assertLessEqual(bare, gluings(handles, ties))

    def test_counts(self):
        for ties in range(1, 101):
            for handles in (1, 2):
                self.assertEqual(fraction_pair(Fraction(bare_gluings(handles, ties), 2 * ties)), count(handles, (2 * ties,)))

    def test_sums_of_lists(self):
        for ties in range(1, 25):
            for handles in (1, 2):
                self.assertEqual(fraction_pair(Fraction(full_gluings(handles, ties), 2 * ties)), web_sum(handles, 1, ties))

    def test_not_true(self):
        self.assertGreater(bare_gluings(1, 4), full_gluings(1, 4))
        self.assertLess(gluing_row(4)[2], gluing_row(4)[1])
        sorts = {}
        for pairing in gluing_pairings(6):
            sort = (gluing_handles(pairing), tuple(sorted([len(place) for place in places_of(pairing)])))
            sorts.setdefault(sort, []).append(pairing)
        unlike = [lot for (handles, _), lot in sorts.items() if handles > 0
                  and not are_alike(web_of_gluing(lot[0]), web_of_gluing(lot[-1]))]
        self.assertTrue(unlike)

    def test_errors(self):
        for call in (gluings, bare_gluings, full_gluings):
            for wrong in (-1, 101, True, None, "1", (1, 1), LONG, -LONG, [1]):
                self.refuses(InvalidNumber, call, 1, wrong, given=wrong)
            for wrong in (-1, True, None, "1", (1, 1), LONG, -LONG, [1]):
                self.refuses(InvalidNumber, call, wrong, -1, given=wrong)
        for call in (bare_gluings, full_gluings):
            self.refuses(InvalidNumber, call, 0, 101, given=0)
        self.assertEqual(gluings(0, 1), 1)
        for wrong in (-1, 101, True, None):
            self.refuses(InvalidNumber, gluing_row, wrong, given=wrong)
            self.refuses(InvalidNumber, gluing_value, wrong, -2, given=wrong)
            self.refuses(InvalidNumber, gluing_value, wrong, 2, given=wrong)
        for wrong in (-1, 10 ** 6 + 1, True, None, (1, 1)):
            self.refuses(InvalidNumber, gluing_value, 0, wrong, given=wrong)


class Colours(unittest.TestCase):
    def test_both_sums(self):
        for ties in (0, 1, 2, 3, 4, 7, 20, 99, 100):
            for colours in (0, 1, 2, 3, 10, 999999, 10 ** 6):
                told = sum([number_by_words(g, ties) * colours ** (ties + 1 - 2 * g) for g in range(ties // 2 + 1)])
                other = odd(2 * ties - 1) * sum([2 ** k * comb(ties, k) * comb(colours, k + 1) for k in range(ties + 1)])
                self.assertEqual(told, other)
                self.assertEqual(gluing_value(ties, colours), told)
        self.assertEqual([gluing_value(0, colours) for colours in (0, 1, 5, 10 ** 6)], [0, 1, 5, 10 ** 6])

    def test_choices_one_by_one(self):
        for ties in (1, 2, 3):
            for colours in (0, 1, 2, 3):
                found = 0
                for pairing in gluing_pairings(ties):
                    places = places_of(pairing)
                    found += len(list(itertools.product(range(colours), repeat=len(places))))
                self.assertEqual(gluing_value(ties, colours), found)


class Gluings(unittest.TestCase, Refusing):
    def test_all(self):
        for ties in range(1, 7):
            found = list(gluing_pairings(ties))
            self.assertEqual(found, sorted(set(found)))
            self.assertEqual(len(found), odd(2 * ties - 1))
            self.assertTrue(all([is_gluing(pairing) and len(pairing) == 2 * ties for pairing in found]))
            self.assertEqual(found, list(pairings((2 * ties,))))

    def test_one_by_one(self):
        found = gluing_pairings(6)
        self.assertIs(type(found), types.GeneratorType)
        self.assertEqual(next(found), (1, 0, 3, 2, 5, 4, 7, 6, 9, 8, 11, 10))
        for wrong in (0, 7, -1, True, None, "1", LONG):
            # A generator raises its errors when its first result is asked for.
            made = gluing_pairings(wrong)
            self.refuses(InvalidNumber, lambda: next(made), given=wrong)

    def test_judging(self):
        def right(value):
            if type(value) is not tuple or not 1 <= len(value) // 2 <= 24 or len(value) % 2:
                return False
            if any([type(side) is not int or not 0 <= side < len(value) for side in value]):
                return False
            return all([value[value[side]] == side != value[side] for side in range(len(value))])

        self.judges_kinds(is_gluing, right)
        for ties in (24, 25):
            self.assertIs(is_gluing(tuple([side + 1 - 2 * (side % 2) for side in range(2 * ties)])), ties == 24)
        for wrong in ((), (0,), (0, 1), (True, 0), (1, False), [1, 0], (1, 2, 0, 3), (1, 0, 3), (1, 0, 2, 3), (1, 0, -1, 2), (4, 0, 3, 2),
                      (1, 2, 3, 0), (3, 3, 1, 0)):
            self.assertIs(is_gluing(wrong), False)
        for pairing in some_gluings():
            self.assertIs(is_gluing(pairing), True)
            self.assertIs(is_gluing(list(pairing)), False)

    def test_webs(self):
        small = [pairing for ties in range(1, 5) for pairing in gluing_pairings(ties)]
        for pairing in small + some_gluings():
            web = web_of_gluing(pairing)
            self.assertIs(type(web), Web)
            self.assertEqual(web.mate, pairing)
            self.assertEqual(web.after, tuple([(side + 1) % len(pairing) for side in pairing]))
            self.assertEqual(web.rims, (tuple(range(len(pairing))),))
            self.assertEqual(gluing_handles(pairing), web.handles)
            self.assertEqual(len(web.places), len(places_of(pairing)))
            for side in range(0, len(pairing), 5):
                self.assertEqual(gluing_of_web(web, side), turned(pairing, side))

    def test_gluings_of_webs(self):
        webs = [web for web in some_webs() if len(web.rims) == 1] + [CROSS, Web.crossed(6), Web.crossed(12)]
        webs += [web for handles in (1, 2) for web in full_webs(handles, 1)[::5]]
        for web in webs:
            readings = []
            for end in range(len(web.mate)):
                pairing = gluing_of_web(web, end)
                self.assertTrue(is_gluing(pairing))
                self.assertTrue(are_alike(web_of_gluing(pairing), web))
                whole = web.rim_round(end)
                self.assertEqual([whole[side] for side in pairing], [web.mate[spot] for spot in whole])
                readings.append(pairing)
            self.assertEqual(len(set(readings)) * symmetry_number(web), len(readings))

    def test_turns(self):
        small = [pairing for ties in range(1, 5) for pairing in gluing_pairings(ties)]
        several = set()
        for pairing in small + some_gluings():
            sides = len(pairing)
            told = [s for s in range(sides) if all([pairing[(i + s) % sides] == (pairing[i] + s) % sides for i in range(sides)])]
            self.assertIs(type(turns_of(pairing)), tuple)
            self.assertEqual(turns_of(pairing), tuple(told))
            self.assertEqual(len(told), symmetry_number(web_of_gluing(pairing)))
            several.add(len(told))
        self.assertGreater(len(several), 6)

    def test_turned(self):
        for pairing in some_gluings():
            sides = len(pairing)
            for steps in (0, 1, sides // 2, sides - 1):
                other = turned(pairing, steps)
                for side in range(sides):
                    self.assertEqual((other[side] + steps) % sides, pairing[(side + steps) % sides])
                self.assertEqual(turned(other, (sides - steps) % sides), pairing)
                self.assertEqual(other == pairing, steps in turns_of(pairing))

    def test_lots(self):
        # Each web is read from all of its ends, so the sums over gluings count webs by their symmetries.
        for ties in (2, 3, 4):
            lots = {}
            for pairing in gluing_pairings(ties):
                lots.setdefault(min([turned(pairing, steps) for steps in range(2 * ties)]), []).append(pairing)
            for pairing, lot in lots.items():
                self.assertEqual(len(lot) * len(turns_of(pairing)), 2 * ties)

    def test_errors(self):
        wrongs = ((), (0, 1), (1, 0, 2, 3), [1, 0], None, True, (True, False), (LONG, 0), "10", CROSS,
                  tuple([side + 1 - 2 * (side % 2) for side in range(50)]))
        for wrong in wrongs:
            for call in (web_of_gluing, gluing_handles, turns_of):
                self.refuses(InvalidPairing, call, wrong)
            self.refuses(InvalidPairing, turned, wrong, -1)
        for wrong in (-1, 4, True, None, "0", (0, 1), LONG):
            self.refuses(InvalidNumber, turned, (2, 3, 0, 1), wrong, given=wrong)
            self.refuses(InvalidNumber, gluing_of_web, CROSS, wrong, given=wrong)
            self.refuses(InvalidWeb, gluing_of_web, None, wrong)
        for wrong in (-1, 6, None):
            self.refuses(InvalidNumber, gluing_of_web, THETA, wrong, given=wrong)
        for web in (THETA, RINGS, Web.bundle(2), Web((0, 1), (1, 0), (0, 0))):
            if len(web.rims) > 1:
                self.refuses(InvalidOperation, gluing_of_web, web, 0)
        self.assertEqual(gluing_of_web(Web((0, 1), (1, 0), (0, 0)), 1), (1, 0))
