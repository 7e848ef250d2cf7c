"""[6.1] to [6.6]: the lists of all full webs of a pair."""

import itertools
import random
import types
import unittest
from fractions import Fraction

from bandrims.bands.changes import drawn_together, parted
from bandrims.bands.codes import are_alike, code_from, least_code, symmetry_number, web_of_code
from bandrims.bands.webs import Web, is_web_data
from bandrims.errors import InvalidNumber, InvalidOperation, InvalidWeb, Refused, TooMany
from bandrims.lots import lists
from bandrims.lots.lists import (
    degree_numbers, drawn_places, each_full, full_webs, place_in_list, threes_webs, web_numbers, web_sum)
from tests.kinds import CROSS, LONG, RINGS, THETA, Refusing
from tests.test_changes import LISTED, can_draw
from tests.test_codes import mixed
from tests.test_webs import lots, row_of_ties

# For each pair how many webs of its list have how many ties.
NUMBERS = {(0, 3): {2: 3, 3: 4}, (0, 4): {3: 20, 4: 99, 5: 144, 6: 64}, (1, 1): {2: 1, 3: 1},
           (1, 2): {3: 5, 4: 14, 5: 15, 6: 9}, (2, 1): {4: 4, 5: 21, 6: 45, 7: 52, 8: 29, 9: 9}}
BEYOND = ((0, 5), (0, 6), (0, 8), (1, 3), (1, 8), (2, 2), (3, 1), (LONG - 1, 1))
NO_PAIRS = ((0, 1), (0, 2))
CALLS = (full_webs, threes_webs, web_numbers, degree_numbers, lambda g, n: next(each_full(g, n)),
         lambda g, n: web_sum(g, n, 3))


def all_mates(ends):
    """All ways to make pairs of ends."""
    if not ends:
        yield {}
    for other in ends[1:]:
        for rest in all_mates([end for end in ends[1:] if end != other]):
            yield {ends[0]: other, other: ends[0], **rest}


def one_place_codes(handles, many):
    """The least codes of all webs of a pair with one place, by all ways to make pairs of its ends."""
    size = 4 * handles + 2 * many - 2
    after = tuple([(end + 1) % size for end in range(size)])
    found = set()
    for told in all_mates(list(range(size))):
        mate = tuple([told[end] for end in range(size)])
        rims = lots(size, lambda end: after[mate[end]])
        if len(rims) == many:
            for order in itertools.permutations(range(many)):
                names = [0] * size
                for name, rim in zip(order, rims):
                    for end in rim:
                        names[end] = name
                found.add(least_code(Web(after, mate, tuple(names))))
    return found


def parted_codes(code):
    """The least codes of all full webs that come of a web by parting a place."""
    web = web_of_code(code)
    found = set()
    for place in web.places:
        for one, other in itertools.permutations(range(len(place)), 2):
            if 2 <= (other - one) % len(place) <= len(place) - 2:
                found.add(least_code(parted(web, place[one], place[other])))
    return found


def all_codes(handles, many):
    """The least codes of all full webs of a pair, grown from webs with one place by parting."""
    level = one_place_codes(handles, many)
    found = set(level)
    while level:
        level = set().union(*[parted_codes(code) for code in level])
        found |= level
    return found


class Lists(unittest.TestCase):
    def test_all_webs_are_there(self):
        for pair in LISTED:
            self.assertEqual([least_code(web) for web in full_webs(*pair)], sorted(all_codes(*pair)))

    def test_all_webs_of_at_most_three_ties(self):
        found = {}
        for ties in (2, 3):
            size = 2 * ties
            for after in itertools.permutations(range(size)):
                mate = tuple([end ^ 1 for end in range(size)])
                rims = lots(size, lambda end: after[mate[end]])
                if min([len(place) for place in lots(size, after.__getitem__)]) < 3:
                    continue
                for order in itertools.permutations(range(len(rims))):
                    name_of = {end: name for name, rim in zip(order, rims) for end in rim}
                    names = tuple([name_of[end] for end in range(size)])
                    if is_web_data((after, mate, names)):
                        web = Web(after, mate, names)
                        found.setdefault((web.handles, len(web.rims)), set()).add(least_code(web))
        for pair in ((0, 3), (1, 1)):
            self.assertEqual([least_code(web) for web in full_webs(*pair)], sorted(found[pair]))
        for pair in ((0, 4), (1, 2)):
            few = [least_code(web) for web in full_webs(*pair) if len(web) == 3]
            self.assertEqual(few, sorted(found[pair]))

    def test_each_web_is_that_of_its_least_code(self):
        for pair in LISTED:
            webs = full_webs(*pair)
            self.assertIs(type(webs), tuple)
            codes = [least_code(web) for web in webs]
            self.assertEqual(codes, sorted(set(codes)))
            for web, code in zip(webs, codes):
                self.assertIs(type(web), Web)
                self.assertEqual(web, web_of_code(code))
                self.assertTrue(web.is_full)
                self.assertEqual((web.handles, len(web.rims)), pair)

    def test_threes(self):
        for pair in LISTED:
            told = tuple([web for web in full_webs(*pair) if web.is_threes])
            self.assertEqual(threes_webs(*pair), told)
        self.assertEqual([len(threes_webs(*pair)) for pair in LISTED], [4, 64, 1, 9, 9])

    def test_numbers(self):
        for pair in LISTED:
            handles, many = pair
            webs = full_webs(*pair)
            told = web_numbers(*pair)
            self.assertEqual(told, NUMBERS[pair])
            self.assertEqual(list(told), list(range(2 * handles + many - 1, 6 * handles - 5 + 3 * many)))
            for ties, number in told.items():
                self.assertEqual(number, [len(web) for web in webs].count(ties))
            for web in webs:
                self.assertEqual(len(web.places) == 1, len(web) == min(told))
                self.assertEqual(web.is_threes, len(web) == max(told))

    def test_degrees(self):
        for pair in LISTED:
            told = {}
            for web in full_webs(*pair):
                key = tuple(sorted(web.degrees))
                told[key] = told.get(key, 0) + 1
            found = degree_numbers(*pair)
            self.assertEqual(found, told)
            self.assertEqual(list(found), sorted(told))
            self.assertIs(type(found), dict)

    def test_each_full(self):
        for pair in LISTED:
            found = each_full(*pair)
            self.assertIsInstance(found, types.GeneratorType)
            self.assertEqual(next(found), full_webs(*pair)[0])
            self.assertEqual(tuple(found), full_webs(*pair)[1:])
        one, other = each_full(0, 3), each_full(0, 3)
        self.assertEqual([next(one), next(other), next(one)], [full_webs(0, 3)[k] for k in (0, 0, 1)])

    def test_places(self):
        source = random.Random(6)
        for pair in LISTED:
            webs = full_webs(*pair)
            few = list(enumerate(webs))[::max(1, len(webs) // 40)]
            for place, web in few + [(len(webs) - 1, webs[-1])]:
                self.assertEqual(place_in_list(web), place)
                self.assertEqual(place_in_list(mixed(web, source)), place)

    def test_not_true(self):
        places = [drawn_places(web) for web in threes_webs(0, 3)]
        self.assertGreater(max([sum([place in row for row in places]) for place in range(7)]), 1)
        lots_of = {}
        for web in full_webs(1, 2):
            lots_of.setdefault((tuple(sorted(web.degrees)), symmetry_number(web)), []).append(web)
        one, other = [webs for webs in lots_of.values() if len(webs) > 1][0][:2]
        self.assertFalse(are_alike(one, other))


class Drawing(unittest.TestCase):
    def test_drawn_places(self):
        source = random.Random(7)
        for pair in LISTED:
            webs = full_webs(*pair)
            place_of = {least_code(web): place for place, web in enumerate(webs)}
            met = set()
            for place, web in enumerate(webs):
                drawn = [drawn_together(web, end) for end in web.heads if can_draw(web, end)]
                told = {place_of[least_code(made)] for made in drawn}
                met |= told
                self.assertEqual({len(made) for made in drawn}, {len(web) - 1} if drawn else set())
                if place % max(1, len(webs) // 30) == 0:
                    self.assertEqual(drawn_places(web), tuple(sorted(told)))
                    self.assertEqual(drawn_places(mixed(web, source)), tuple(sorted(told)))
            # Each full web that is no web of threes comes so.
            self.assertEqual(met, {place for place, web in enumerate(webs) if not web.is_threes})

    def test_one_place(self):
        for pair in LISTED:
            for web in full_webs(*pair)[:3] + (full_webs(*pair)[-1],):
                self.assertEqual(drawn_places(web) == (), len(web.places) == 1)


class Sums(unittest.TestCase):
    def test_sums(self):
        for pair in LISTED:
            webs = full_webs(*pair)
            signed = Fraction(0)
            for ties in range(1, 25):
                told = sum([Fraction(1, symmetry_number(web)) for web in webs if len(web) == ties], Fraction(0))
                self.assertEqual(web_sum(*pair, ties), (told.numerator, told.denominator))
                self.assertEqual((told * 2 * ties).denominator, 1)
                self.assertEqual(told > 0, ties in NUMBERS[pair])
                signed += told * (-1) ** (ties + pair[1])
            # What the sums with signs must be is told by Bernoulli numbers.
            self.assertEqual(signed, {(0, 3): 1, (0, 4): -1, (1, 1): Fraction(-1, 12), (1, 2): Fraction(1, 12),
                                      (2, 1): Fraction(1, 120)}[pair])

    def test_webs_with_a_told_end(self):
        for pair in LISTED:
            webs = full_webs(*pair)
            for ties in NUMBERS[pair]:
                top, bottom = web_sum(*pair, ties)
                # Ends that a likeness leads to one another have one code.
                told = {code_from(web, end) for web in webs if len(web) == ties for end in range(2 * ties)}
                self.assertEqual(2 * ties * top, len(told) * bottom)

    def test_no_symmetries_without_handles(self):
        for pair in ((0, 3), (0, 4)):
            self.assertEqual({symmetry_number(web) for web in full_webs(*pair)}, {1})

    def test_told_sums(self):
        told = [web_sum(1, 1, 2), web_sum(1, 1, 3), web_sum(1, 2, 6), web_sum(2, 1, 9), web_sum(2, 1, 4), web_sum(0, 4, 6)]
        self.assertEqual(told, [(1, 4), (1, 6), (14, 3), (35, 6), (21, 8), (64, 1)])
        self.assertEqual([web_sum(0, 3, 1), web_sum(0, 3, 4), web_sum(2, 1, 24)], [(0, 1)] * 3)


class Errors(unittest.TestCase, Refusing):
    def test_pairs(self):
        self.assertEqual(lists.MAX_DEPTH, 4)
        for call in CALLS:
            for pair in LISTED:
                call(*pair)
            for pair in BEYOND:
                self.refuses(TooMany, call, *pair, limit=4)
            for pair in NO_PAIRS:
                self.refuses(Refused, call, *pair, reason=("pair",))
            self.refuses(InvalidNumber, call, -1, 0, given=-1)
            self.refuses(InvalidNumber, call, LONG, 9, given=LONG)
            self.refuses(InvalidNumber, call, 0, 0, given=0)
            self.refuses(InvalidNumber, call, 0, 9, given=9)
            self.refuses(InvalidNumber, call, True, 3, given=True)
            self.refuses(InvalidNumber, call, 1, True, given=True)

    def test_number_of_ties(self):
        for ties in (0, 25, -1, True, None, "3", (3, 1)):
            for pair in LISTED[:1] + BEYOND + NO_PAIRS:
                self.refuses(InvalidNumber, web_sum, *pair, ties, given=ties)
        self.refuses(TooMany, web_sum, 0, 5, 24, limit=4)
        self.refuses(Refused, web_sum, 0, 2, 24, reason=("pair",))

    def test_when_a_generator_raises(self):
        for args, error in (((None, 3), InvalidNumber), ((0, 9), InvalidNumber), ((0, 1), Refused), ((0, 5), TooMany)):
            found = each_full(*args)
            self.assertRaises(error, next, found)

    def test_webs(self):
        for call in (place_in_list, drawn_places):
            self.refuses_kinds(InvalidWeb, call, lambda value: isinstance(value, Web))
            for web in (Web.bundle(2), Web(*row_of_ties(3)), Web(*row_of_ties(24)), parted(Web.bundle(5), 0, 0)):
                self.refuses(InvalidOperation, call, web)
            for web in (Web.bundle(5), Web.bundle(8), Web.crossed(3), Web.crossed(12)):
                self.refuses(TooMany, call, web, limit=4)
            for web in (THETA, CROSS, RINGS, Web.bundle(4), Web.crossed(2)):
                call(web)
