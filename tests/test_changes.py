"""[5.1] to [5.9]: drawing together, parting, taking out, putting in, flips and turning over."""

import itertools
import random
import unittest

from bandrims.bands import changes
from bandrims.bands.changes import (
    drawn_together, flipped, flips_between, is_flip, is_flips, parted, put_in, taken_out, turned_over)
from bandrims.bands.codes import are_alike, least_code, shuffled
from bandrims.bands.webs import Web
from bandrims.errors import InvalidNumber, InvalidOperation, InvalidWeb, TooMany
from bandrims.lots.lists import full_webs, threes_webs
from tests.kinds import CROSS, RINGS, THETA, Refusing
from tests.test_codes import HEXAGON, ends, mixed
from tests.test_webs import row_of_ties, some_webs

LISTED = ((0, 3), (0, 4), (1, 1), (1, 2), (2, 1))


def web_of_places(places, mate, names):
    """The web with these places, told as rounds."""
    after = {}
    for place in places:
        for k, end in enumerate(place):
            after[end] = place[(k + 1) % len(place)]
    return Web(tuple([after[end] for end in sorted(after)]), tuple(mate), tuple(names))


def without_two(places, mate, names, gone):
    """The web without two ends of a tie, all others renumbered in ascending sequence."""
    kept = [end for end in range(len(mate)) if end not in gone]
    places = [[kept.index(end) for end in place if end not in gone] for place in places]
    return web_of_places([place for place in places if place], [kept.index(mate[end]) for end in kept],
                         [names[end] for end in kept])


def drawn_by_words(web, end):
    """What [5.1] tells."""
    i, j = end, web.mate[end]
    first, second = web.place_round(i), web.place_round(j)
    places = [place for place in web.places if i not in place and j not in place]
    return without_two(places + [first[1:] + second[1:]], web.mate, web.names, (i, j))


def parted_by_words(web, f, s):
    """What [5.2] tells."""
    new = len(web.mate)
    places = [place for place in web.places if f not in place]
    whole = web.place_round(f)
    cut = whole.index(s) if f != s else len(whole)
    places += [(new,) + whole[:cut], (new + 1,) + whole[cut:]]
    return web_of_places(places, web.mate + (new + 1, new), web.names + (web.names[s], web.names[f]))


def taken_by_words(web, end):
    """What [5.3] tells."""
    low, high = sorted(web.sides_of(end))
    names = [low if name == high else name for name in web.names]
    return without_two(web.places, web.mate, [name - (name > high) for name in names], (end, web.mate[end]))


def put_by_words(web, f, s):
    """What [5.4] tells."""
    new, many = len(web.mate), len(web.rims)
    places = [list(place) for place in web.places]
    for end, ahead in ((f, new), (s, new + 1)):
        for place in places:
            if end in place:
                place.insert(place.index(end), ahead)
    whole = web.rim_round(f)
    moved = whole[:whole.index(s)] if f != s else ()
    names = [many if end in moved else name for end, name in enumerate(web.names)]
    return web_of_places(places, web.mate + (new + 1, new), names + [web.names[f], many])


def flipped_by_words(web, i):
    """What [5.5] tells."""
    j = web.mate[i]
    _, a, b = web.place_round(i)
    _, c, d = web.place_round(j)
    places = [place for place in web.places if i not in place and j not in place] + [(i, b, c), (j, d, a)]
    names = list(web.names)
    names[i], names[j] = web.names[d], web.names[b]
    return web_of_places(places, web.mate, names)


def can_flip_by_words(web, end):
    """Whether the ends of the tie are at unlike places of three ends."""
    one, other = web.place_round(end), web.place_round(web.mate[end])
    return len(one) == len(other) == 3 and set(one) != set(other)


def can_draw(web, end):
    """Whether the tie can be drawn together."""
    return len(web) > 1 and web.mate[end] not in web.place_round(end)


def can_take(web, end):
    """Whether the tie can be taken out."""
    return len(web) > 1 and len(set(web.sides_of(end))) == 2


def sizes(web):
    """The numbers of ties, places, rims and handles."""
    return (len(web), len(web.places), len(web.rims), web.handles)


def many_webs():
    """Webs of all sorts, full ones and ones of threes among them."""
    source = random.Random(20)
    found = some_webs() + [HEXAGON] + [Web(*row_of_ties(ties)) for ties in (1, 2, 5, 23)]
    for pair in LISTED:
        found += [mixed(web, source) for web in full_webs(*pair)[::9]]
    return found


class DrawingAndParting(unittest.TestCase, Refusing):
    def test_drawn_together(self):
        for web in many_webs():
            ties, places, rims, handles = sizes(web)
            for end in ends(web):
                if not can_draw(web, end):
                    self.refuses(InvalidOperation, drawn_together, web, end)
                    continue
                made = drawn_together(web, end)
                self.assertEqual(made, drawn_by_words(web, end))
                self.assertEqual(sizes(made), (ties - 1, places - 1, rims, handles))
                self.assertEqual(made, drawn_together(web, web.mate[end]))
                if web.is_full:
                    self.assertTrue(made.is_full)

    def test_parted(self):
        for web in many_webs():
            ties, places, rims, handles = sizes(web)
            for first in list(ends(web))[::3]:
                for second in list(ends(web))[:20]:
                    if second not in web.place_round(first):
                        self.refuses(InvalidOperation, parted, web, first, second)
                    elif ties == 24:
                        self.refuses(TooMany, parted, web, first, second, limit=24)
                    else:
                        made = parted(web, first, second)
                        self.assertEqual(made, parted_by_words(web, first, second))
                        self.assertEqual(sizes(made), (ties + 1, places + 1, rims, handles))
                        self.assertEqual(drawn_together(made, 2 * ties), web)
                        self.assertEqual(drawn_together(made, 2 * ties + 1), web)

    def test_parted_at_one_end(self):
        for web in many_webs():
            for end in ends(web):
                if len(web) < 24:
                    made = parted(web, end, end)
                    new = 2 * len(web)
                    self.assertEqual(made, parted_by_words(web, end, end))
                    self.assertEqual(made.place_round(new + 1), (new + 1,))
                    self.assertEqual(made.place_round(new), (new,) + web.place_round(end))
                    self.assertEqual(made.sides_of(new), (web.names[end], web.names[end]))
                    self.assertEqual(drawn_together(made, new), web)

    def test_one_tie(self):
        bar = Web(*row_of_ties(1))
        for end in (0, 1):
            self.refuses(InvalidOperation, drawn_together, bar, end)
        self.assertEqual(parted(bar, 0, 0), Web((2, 1, 0, 3), (1, 0, 3, 2), (0, 0, 0, 0)))
        loop = Web((1, 0), (1, 0), (0, 1))
        self.refuses(InvalidOperation, drawn_together, loop, 0)
        self.refuses(InvalidOperation, taken_out, loop, 0)
        self.refuses(InvalidOperation, taken_out, bar, 1)
        self.refuses(InvalidOperation, parted, bar, 0, 1)

    def test_every_full_web_comes_of_threes(self):
        for pair in LISTED:
            level = list(threes_webs(*pair))
            met = list(level)
            while level:
                drawn = [drawn_together(web, end) for web in level for end in web.heads if can_draw(web, end)]
                level = list({least_code(web): web for web in drawn}.values())
                met += level
            self.assertEqual(sorted(map(least_code, met)), [least_code(web) for web in full_webs(*pair)])


class TakingAndPutting(unittest.TestCase, Refusing):
    def test_taken_out(self):
        for web in many_webs():
            ties, places, rims, handles = sizes(web)
            for end in ends(web):
                if not can_take(web, end):
                    self.refuses(InvalidOperation, taken_out, web, end)
                    continue
                made = taken_out(web, end)
                self.assertEqual(made, taken_by_words(web, end))
                self.assertEqual(sizes(made), (ties - 1, places, rims - 1, handles))
                self.assertEqual(made, taken_out(web, web.mate[end]))

    def test_put_in(self):
        for web in many_webs():
            ties, places, rims, handles = sizes(web)
            for first in list(ends(web))[::3]:
                for second in list(ends(web))[:20]:
                    if web.names[first] != web.names[second]:
                        self.refuses(InvalidOperation, put_in, web, first, second)
                    elif ties == 24:
                        self.refuses(TooMany, put_in, web, first, second, limit=24)
                    elif rims == 8:
                        self.refuses(TooMany, put_in, web, first, second, limit=8)
                    else:
                        made = put_in(web, first, second)
                        self.assertEqual(made, put_by_words(web, first, second))
                        self.assertEqual(sizes(made), (ties + 1, places, rims + 1, handles))
                        self.assertEqual(taken_out(made, 2 * ties), web)
                        self.assertEqual(taken_out(made, 2 * ties + 1), web)

    def test_put_in_at_one_end(self):
        for web in many_webs():
            if len(web) < 24 and len(web.rims) < 8:
                new = 2 * len(web)
                for end in ends(web):
                    made = put_in(web, end, end)
                    self.assertEqual(made.rims[len(web.rims)], (new + 1,))
                    self.assertEqual(made.names[:new + 1], web.names + (web.names[end],))
                    self.assertEqual((made.after[new], made.after[new + 1]), (new + 1, end))
                    self.assertEqual(taken_out(made, new), web)

    def test_names(self):
        web = Web.bundle(5)
        made = taken_out(web, 2)
        self.assertEqual(web.sides_of(2), (1, 2))
        self.assertEqual(sorted(set(made.names)), [0, 1, 2, 3])
        self.assertEqual(made.names, (0, 1, 1, 2, 2, 3, 3, 0))


class Bounds(unittest.TestCase, Refusing):
    def test_25_ties(self):
        row = Web(*row_of_ties(24))
        for end in (0, 7, 47):
            self.refuses(TooMany, parted, row, end, end, limit=24)
            self.refuses(TooMany, put_in, row, end, 3, limit=24)
        self.assertEqual(len(parted(Web(*row_of_ties(23)), 4, 4)), 24)
        self.assertEqual(len(put_in(Web(*row_of_ties(23)), 4, 9)), 24)

    def test_nine_rims(self):
        web = Web.bundle(8)
        self.refuses(TooMany, put_in, web, 0, 0, limit=8)
        self.refuses(TooMany, put_in, web, 0, 15, limit=8)
        self.assertEqual(len(put_in(Web.bundle(7), 0, 0).rims), 8)
        self.assertEqual(len(parted(web, 0, 4).rims), 8)

    def test_both(self):
        web = Web.bundle(8)
        while len(web) < 24:
            web = parted(web, 0, 0)
        self.assertEqual(sizes(web), (24, 18, 8, 0))
        self.refuses(TooMany, put_in, web, 0, 0, limit=24)
        self.refuses(InvalidOperation, put_in, web, 0, 2)
        self.refuses(InvalidOperation, parted, web, 0, 1)
        self.refuses(TooMany, parted, web, 0, 0, limit=24)
        self.refuses(TooMany, turned_over, web, limit=8)

    def test_what_comes_ahead(self):
        full = Web(*row_of_ties(24))
        eight = Web.bundle(8)
        self.refuses(InvalidNumber, parted, full, 0, 48, given=48)
        self.refuses(InvalidNumber, parted, full, -1, 48, given=-1)
        self.refuses(InvalidNumber, put_in, full, 48, 0, given=48)
        self.refuses(InvalidNumber, put_in, eight, 0, 16, given=16)
        self.refuses(InvalidOperation, parted, full, 0, 1)
        self.refuses(InvalidOperation, put_in, eight, 0, 2)
        self.refuses(InvalidWeb, put_in, None, 48, 48)

    def test_constants(self):
        self.assertEqual((changes.MAX_TIES, changes.MAX_RIMS, changes.MOST_FLIPS), (24, 8, 200))


class Flips(unittest.TestCase, Refusing):
    def test_flipped(self):
        some = 0
        for web in many_webs():
            for end in ends(web):
                told = can_flip_by_words(web, end)
                self.assertIs(is_flip(web, end), told)
                if not told:
                    self.refuses(InvalidOperation, flipped, web, end)
                    continue
                some += 1
                made = flipped(web, end)
                self.assertEqual(made, flipped_by_words(web, end))
                self.assertEqual(sizes(made), sizes(web))
                twice = flipped(made, end)
                order = list(ends(web))
                order[end], order[web.mate[end]] = web.mate[end], end
                self.assertEqual(twice, shuffled(web, tuple(order)))
                self.assertEqual(flipped(flipped(twice, end), end), web)
        self.assertGreater(some, 100)

    def test_places_of_other_degrees_stay(self):
        for web in many_webs():
            for end in ends(web):
                degrees = (len(web.place_round(end)), len(web.place_round(web.mate[end])))
                if degrees != (3, 3):
                    self.assertIs(is_flip(web, end), False)

    def test_is_flip_of_other_values(self):
        self.judges_kinds(lambda value: is_flip(THETA, value), lambda value: type(value) is int and 0 <= value < 6)
        self.judges_kinds(lambda value: is_flip(CROSS, value), lambda value: False)
        self.judges_kinds(lambda value: is_flip(RINGS, value), lambda value: value in (2, 3) and type(value) is int)

    def test_turned_over(self):
        for web in many_webs():
            if len(web.places) > 8:
                self.refuses(TooMany, turned_over, web, limit=8)
                continue
            made = turned_over(web)
            self.assertEqual(made.mate, web.mate)
            self.assertEqual(made.after, tuple([web.after[web.mate[end]] for end in ends(web)]))
            self.assertEqual(made.rims, web.places)
            self.assertEqual(sorted(map(min, made.rims)), list(map(min, made.rims)))
            self.assertEqual({frozenset(place) for place in made.places}, {frozenset(rim) for rim in web.rims})
            self.assertEqual(made.handles, web.handles)
            twice = turned_over(made)
            self.assertEqual((twice.after, twice.mate), (web.after, web.mate))

    def test_names_of_turned_over(self):
        web = Web((4, 3, 1, 2, 5, 0), (1, 0, 3, 2, 5, 4), (2, 2, 1, 2, 2, 0))
        self.assertEqual([min(place) for place in web.places], [0, 1])
        self.assertEqual(turned_over(web).names, (0, 1, 1, 1, 0, 0))

    def test_eight_places(self):
        row = Web(*row_of_ties(7))
        self.assertEqual(len(turned_over(row).rims), 8)
        self.refuses(TooMany, turned_over, Web(*row_of_ties(8)), limit=8)


class RowsOfFlips(unittest.TestCase, Refusing):
    def leads(self, one, other, row):
        """Whether a tuple of flips leads one web to the other one, by words."""
        for end in row:
            if not can_flip_by_words(one, end):
                return False
            one = flipped_by_words(one, end)
        return are_alike(one, other)

    def test_all_webs_of_threes_of_a_pair(self):
        source = random.Random(17)
        for pair in LISTED:
            webs = [mixed(web, source) for web in threes_webs(*pair)]
            few = webs if len(webs) < 10 else webs[::7]
            for one, other in itertools.product(few, repeat=2):
                row = flips_between(one, other)
                self.assertIs(type(row), tuple)
                self.assertLessEqual(len(row), 200)
                self.assertTrue(self.leads(one, other, row))
                self.assertIs(is_flips(one, other, row), True)

    def test_from_one_web_to_all(self):
        one = threes_webs(0, 4)[5]
        for other in threes_webs(0, 4):
            self.assertTrue(is_flips(one, other, flips_between(one, other)))

    def test_which_rows_are_accepted(self):
        bent = flipped(THETA, 0)
        for other in (THETA, bent, RINGS):
            for many in range(4):
                for row in itertools.product(range(-1, 7), repeat=many):
                    told = all([end in range(6) for end in row]) and self.leads(THETA, other, row)
                    self.assertIs(is_flips(THETA, other, row), told)

    def test_wrong_rows(self):
        def right(value):
            return (type(value) is tuple and all([type(end) is int and end in range(6) for end in value])
                    and self.leads(THETA, THETA, value))
        self.judges_kinds(lambda value: is_flips(THETA, THETA, value), right)
        self.judges_kinds(lambda value: is_flips(THETA, THETA, (0, 0, 0, value)), lambda value: right((0, 0, 0, value)))
        self.assertIs(is_flips(THETA, flipped(THETA, 0), (0,)), True)
        self.assertIs(is_flips(THETA, flipped(THETA, 0), (False,)), False)
        self.assertIs(is_flips(THETA, flipped(THETA, 0), [0]), False)
        self.assertIs(is_flips(THETA, flipped(THETA, 0), (0, 0, 0, "0")), False)

    def test_200_flips(self):
        for web in (THETA, threes_webs(2, 1)[3]):
            end = [end for end in ends(web) if is_flip(web, end)][0]
            for many, told in ((0, True), (4, True), (196, True), (198, True), (200, True), (201, False), (204, False)):
                self.assertIs(is_flips(web, web, (end,) * many), told, many)
            self.assertIs(is_flips(web, flipped(web, end), (end,) * 199), True)
            self.assertIs(is_flips(web, flipped(web, end), (end,) * 201), False)

    def test_empty_rows(self):
        for pair in LISTED:
            for web in threes_webs(*pair)[:5]:
                self.assertTrue(is_flips(web, web, ()))
                self.assertTrue(is_flips(web, web, flips_between(web, web)))
        self.assertIs(is_flips(THETA, RINGS, ()), False)
        self.assertIs(is_flips(THETA, mixed(THETA, random.Random(2)), ()), True)

    def test_unlike_numbers(self):
        webs = [threes_webs(*pair)[0] for pair in LISTED] + [self.big()]
        for one, other in itertools.permutations(webs, 2):
            self.assertIsNone(flips_between(one, other))
            self.assertIs(is_flips(one, other, ()), False)
            self.assertIs(is_flips(one, other, (0, 0, 0, 0)), False)

    def big(self):
        """A web of threes without handles and with five rims."""
        web = Web.bundle(5)
        while not web.is_threes:
            place = [place for place in web.places if len(place) > 3][0]
            web = parted(web, place[0], place[2])
        return web

    def test_pairs_without_lists(self):
        web = self.big()
        self.assertEqual((web.handles, len(web.rims)), (0, 5))
        self.refuses(TooMany, flips_between, web, web, limit=4)
        end = [end for end in ends(web) if is_flip(web, end)][0]
        self.assertIs(is_flips(web, web, ()), True)
        self.assertIs(is_flips(web, web, (end,) * 4), True)
        self.assertIs(is_flips(web, flipped(web, end), (end,)), True)

    def test_webs_that_are_not_of_threes(self):
        four = Web.bundle(4)
        for call in (flips_between, lambda one, other: is_flips(one, other, ())):
            self.refuses(InvalidOperation, call, four, four)
            self.refuses(InvalidOperation, call, THETA, CROSS)
            self.refuses(InvalidOperation, call, CROSS, THETA)
            self.refuses(InvalidOperation, call, self.big(), four)
            self.refuses(InvalidWeb, call, CROSS, None)
            self.refuses(InvalidWeb, call, None, CROSS)


class NotTrue(unittest.TestCase):
    def test_not_true(self):
        self.assertTrue(THETA.is_full)
        self.assertFalse(turned_over(THETA).is_full)
        self.assertFalse(taken_out(THETA, 0).is_full)
        bent = flipped(THETA, 0)
        self.assertTrue(is_flips(THETA, bent, (0,)) and is_flips(THETA, bent, (0, 0, 0)))
