"""[8.1] to [8.6]: pairings of the sides of polygons, and the webs that they make."""

import itertools
import random
import types
import unittest
from fractions import Fraction

from bandrims.bands.changes import parted
from bandrims.bands.codes import likeness, symmetries
from bandrims.bands.webs import Web, are_whole_lengths, rim_lengths
from bandrims.errors import (
    InvalidLengths, InvalidMove, InvalidNumber, InvalidOperation, InvalidPairing, InvalidRims, InvalidWeb, Refused,
    TooMany)
from bandrims.lots.lists import full_webs
from bandrims.sides import pairings as module
from bandrims.sides.pairings import (
    count_by_pairings, is_pairing, is_proper, pairing_of_web, pairings, side_after, side_web, turned_pairing,
    web_of_pairing)
from bandrims.sides.solutions import keeping_number
from tests.kinds import CROSS, LONG, RINGS, THETA, Refusing, between, is_short, raised, row_of
from tests.specs import is_row
from tests.test_changes import LISTED
from tests.test_codes import HEXAGON, mixed
from tests.test_solutions import fraction_pair, led_by_words
from tests.test_webs import lots, row_of_ties, together

RIMS = ((1,), (2,), (4,), (6,), (8,), (1, 1), (2, 2), (1, 3), (2, 4), (3, 3), (4, 4), (1, 1, 2), (2, 2, 2), (1, 2, 3),
        (2, 2, 4), (1, 1, 1, 1), (1, 1, 1, 3), (2, 2, 2, 2), (1, 1, 2, 2, 2))


def next_by_words(rims, side):
    """The side behind a side."""
    first = 0
    for length in rims:
        if side < first + length:
            return first + (side - first + 1) % length
        first += length


def name_by_words(rims, side):
    """The name of the polygon of a side."""
    return [name for name, length in enumerate(rims) for _ in range(length)][side]


def pairings_by_words(many):
    """All pairings of so many sides, by trying all sequences."""
    return [row for row in itertools.permutations(range(many))
            if all([row[side] != side and row[row[side]] == side for side in range(many)])]


def side_web_by_words(rims, pairing):
    """The tuples after and mate of the side web."""
    return (tuple([next_by_words(rims, partner) for partner in pairing]), pairing)


def places_of(rims, pairing):
    """The places of the side web."""
    return lots(len(pairing), side_web_by_words(rims, pairing)[0].__getitem__)


def state_of(rims, pairing):
    """What the pairing is: apart, lone, ring, or proper."""
    degrees = [len(place) for place in places_of(rims, pairing)]
    if not together(*side_web_by_words(rims, pairing)):
        return "apart"
    if 1 in degrees:
        return "lone"
    return "proper" if max(degrees) >= 3 else "ring"


def web_by_words(rims, pairing):
    """The full web with its lengths that a proper pairing makes, as [8.3] tells it."""
    after, mate = side_web_by_words(rims, pairing)
    place_of = {side: place for place in places_of(rims, pairing) for side in place}
    kept = sorted([side for side in place_of if len(place_of[side]) >= 3])
    new_mate, length_of = [], []
    for end in kept:
        spot, length = mate[end], 1
        while len(place_of[spot]) == 2:
            other, = [side for side in place_of[spot] if side != spot]
            spot, length = mate[other], length + 1
        new_mate.append(kept.index(spot))
        length_of.append(length)
    web = Web(tuple([kept.index(after[end]) for end in kept]), tuple(new_mate),
              tuple([name_by_words(rims, end) for end in kept]))
    return web, tuple([length_of[head] for head in web.heads])


def turned_by_words(rims, pairing, steps):
    """A pairing, turned as [8.5] tells it."""
    def led(side):
        name = name_by_words(rims, side)
        first = sum(rims[:name])
        return first + (side - first + steps[name]) % rims[name]
    found = {led(side): led(partner) for side, partner in enumerate(pairing)}
    return tuple([found[side] for side in range(len(pairing))])


def all_turnings(rims):
    """All tuples of steps."""
    return itertools.product(*[range(length) for length in rims])


def long_pairing(rims, source):
    """A pairing of many sides."""
    sides = source.sample(range(sum(rims)), sum(rims))
    found = [0] * len(sides)
    for one, other in zip(sides[::2], sides[1::2]):
        found[one], found[other] = other, one
    return tuple(found)


def webs_with_lengths():
    """Full webs of several pairs with whole lengths, their ends in mixed sequence."""
    source = random.Random(41)
    webs = [THETA, CROSS, RINGS, HEXAGON, Web.bundle(8), Web.crossed(2), Web.crossed(12)]
    webs += [mixed(web, source) for pair in LISTED for web in full_webs(*pair)[::13]]
    for web in webs:
        yield web, (1,) * len(web)
        yield web, tuple([source.randint(1, 4) for _ in range(len(web))])


class Sides(unittest.TestCase, Refusing):
    def test_constants(self):
        self.assertEqual((module.MAX_SIDES, module.MAX_SUM), (12, 1000))

    def test_all_pairings(self):
        for rims in RIMS:
            told = pairings_by_words(sum(rims)) if sum(rims) < 9 else None
            found = list(pairings(rims))
            self.assertEqual(found, told if told is not None else sorted(found))
            self.assertEqual({type(pairing) for pairing in found} - {tuple}, set())
        for many, number in ((1, 0), (2, 1), (3, 0), (9, 0), (10, 945), (11, 0), (12, 10395)):
            found = list(pairings((many,)))
            self.assertEqual(len(found), number)
            self.assertEqual(found, sorted(set(found)))
            self.assertTrue(all([is_pairing((many,), pairing) for pairing in found[::50]]))
        self.assertEqual(list(pairings((5, 7))), list(pairings((12,))))

    def test_one_by_one(self):
        found = pairings((12,))
        self.assertIsInstance(found, types.GeneratorType)
        self.assertEqual(next(found), (1, 0, 3, 2, 5, 4, 7, 6, 9, 8, 11, 10))
        self.assertEqual(next(found), (1, 0, 3, 2, 5, 4, 7, 6, 10, 11, 8, 9))
        other = pairings((12,))
        self.assertEqual(next(other), (1, 0, 3, 2, 5, 4, 7, 6, 9, 8, 11, 10))
        self.assertEqual(next(found), (1, 0, 3, 2, 5, 4, 7, 6, 11, 10, 9, 8))

    def test_which_are_pairings(self):
        for rims in ((2,), (1, 1), (3,), (4,), (1, 3), (2, 2)):
            told = pairings_by_words(sum(rims))
            for row in itertools.product(range(-1, sum(rims) + 1), repeat=sum(rims)):
                self.assertIs(is_pairing(rims, row), row in told)
        self.judges_kinds(lambda value: is_pairing((4,), value), lambda value: False)
        self.judges_kinds(lambda value: is_pairing((1, 1), value), lambda value: repr(value) == "(1, 0)")
        for wrong in ([2, 3, 0, 1], (2, 3, False, True), (2, 3, 0), (2, 3, 0, 1, 4), (2, 3, 0, LONG), (-2, 3, -4, 1),
                      (2.0, 3, 0, 1), ("2", 3, 0, 1)):
            self.assertIs(is_pairing((4,), wrong), False)
        for rims in ((LONG - 1,), (LONG - 1,) * 8, (1000, 1)):
            self.assertIs(is_pairing(rims, (1, 0)), False)
        long = tuple([side ^ 1 for side in range(1002)])
        self.assertIs(is_pairing((1002,), long), True)
        self.assertIs(is_pairing((1001, 1), long), True)
        self.assertIs(is_pairing((1001,), long), False)

    def test_side_after(self):
        for rims in RIMS + ((3, 1, 5), (1000,), (500, 499, 1)):
            told = [side_after(rims, side) for side in range(sum(rims))]
            self.assertEqual(told, [next_by_words(rims, side) for side in range(sum(rims))])

    def test_side_webs(self):
        source = random.Random(42)
        for rims in RIMS + ((7, 1, 6), (400, 1, 599)):
            found = list(pairings(rims))[:60] if sum(rims) <= 12 else [long_pairing(rims, source)]
            for pairing in found:
                after, mate = side_web(rims, pairing)
                self.assertEqual((after, mate), side_web_by_words(rims, pairing))
                # The polygons are the rims.
                self.assertEqual([after[mate[side]] for side in range(len(mate))],
                                 [side_after(rims, side) for side in range(len(mate))])

    def test_proper(self):
        met = set()
        for rims in RIMS:
            for pairing in list(pairings(rims))[::5 if sum(rims) > 7 else 1]:
                state = state_of(rims, pairing)
                met.add(state)
                self.assertIs(is_proper(rims, pairing), state == "proper")
        self.assertEqual(met, {"apart", "lone", "ring", "proper"})

    def test_not_true(self):
        self.assertEqual(state_of((2, 2), (2, 3, 0, 1)), "ring")
        self.assertIs(is_proper((2, 2), (2, 3, 0, 1)), False)
        one, other = (3, 5, 4, 0, 2, 1), (3, 4, 5, 0, 1, 2)
        self.assertEqual([web_of_pairing((6,), pairing)[0].handles for pairing in (one, other)], [1, 1])
        self.assertNotIn(other, [turned_pairing((6,), one, (k,)) for k in range(6)])


class Webs(unittest.TestCase, Refusing):
    def test_webs_of_pairings(self):
        source = random.Random(43)
        proper = 0
        for rims in RIMS + ((12,), (5, 7), (3, 3, 3, 3), (20,), (12, 8), (14, 1, 5)):
            found = list(pairings(rims)) if sum(rims) <= 8 else [long_pairing(rims, source) for _ in range(150)]
            for pairing in found:
                state = state_of(rims, pairing)
                if state != "proper":
                    self.refuses(Refused, web_of_pairing, rims, pairing, reason=(state,))
                    continue
                proper += 1
                web, lengths = web_of_pairing(rims, pairing)
                self.assertEqual((web, lengths), web_by_words(rims, pairing))
                self.assertTrue(web.is_full)
                self.assertTrue(are_whole_lengths(web, lengths))
                self.assertEqual(rim_lengths(web, lengths), tuple([(length, 1) for length in rims]))
        self.assertGreater(proper, 300)

    def test_what_is_refused_first(self):
        # Apart and with lone places; apart and rings.
        self.refuses(Refused, web_of_pairing, (2, 2), (1, 0, 3, 2), reason=("apart",))
        self.refuses(Refused, web_of_pairing, (1, 1, 1, 1), (1, 0, 3, 2), reason=("apart",))
        self.refuses(Refused, web_of_pairing, (6,), (1, 0, 3, 2, 5, 4), reason=("lone",))
        self.refuses(Refused, web_of_pairing, (1, 1), (1, 0), reason=("ring",))
        self.refuses(Refused, web_of_pairing, (500, 500), tuple([999 - side for side in range(1000)]), reason=("ring",))

    def test_many_ties(self):
        for handles in (12, 13):
            # All sides of one polygon stand at one place, as with crossed ties.
            rims = (4 * handles,)
            pairing = tuple([side + 2 if side % 4 < 2 else side - 2 for side in range(4 * handles)])
            self.assertIs(is_proper(rims, pairing), True)
            if handles == 12:
                web, lengths = web_of_pairing(rims, pairing)
                self.assertEqual((len(web), web.handles, lengths), (24, 12, (1,) * 24))
            else:
                self.refuses(TooMany, web_of_pairing, rims, pairing, limit=24)

    def test_long_lengths(self):
        for web, lengths, told in ((CROSS, (1, 499), None), (CROSS, (250, 250), None), (THETA, (498, 1, 1), None),
                                   (CROSS, (1, 500), 1000), (THETA, (499, 1, 1), 1000), (CROSS, (LONG - 1, 1), 1000)):
            if told is None:
                rims = tuple([top for top, _ in rim_lengths(web, lengths)])
                pairing = pairing_of_web(web, lengths)
                self.assertEqual(sum(rims), 1000)
                made, found = web_of_pairing(rims, pairing)
                self.assertEqual(sorted(found), sorted(lengths))
                self.assertIs(is_proper(rims, pairing), True)
            else:
                self.refuses(TooMany, pairing_of_web, web, lengths, limit=told)

    def test_there_and_back(self):
        for web, lengths in webs_with_lengths():
            rims = tuple([top for top, _ in rim_lengths(web, lengths)])
            pairing = pairing_of_web(web, lengths)
            self.assertIs(is_pairing(rims, pairing), True)
            self.assertIs(is_proper(rims, pairing), True)
            made, found = web_of_pairing(rims, pairing)
            move = likeness(web, made)
            self.assertIsNotNone(move)
            # Some likeness keeps all lengths.
            told = []
            for symmetry in symmetries(web):
                led = [None] * len(web)
                for head in web.heads:
                    led[made.tie_of(move[symmetry[head]])] = lengths[web.tie_of(head)]
                told.append(tuple(led))
            self.assertIn(found, told)

    def test_pairings_of_webs_by_words(self):
        for web, lengths in webs_with_lengths():
            sides = {}
            for rim in web.rims:
                for end in rim:
                    first = sum(map(len, sides.values()))
                    sides[end] = list(range(first, first + lengths[web.tie_of(end)]))
            told = {}
            for end, row in sides.items():
                for j, side in enumerate(row):
                    told[side] = sides[web.mate[end]][len(row) - 1 - j]
            self.assertEqual(pairing_of_web(web, lengths), tuple([told[side] for side in sorted(told)]))

    def test_back_and_there(self):
        for rims in ((4,), (6,), (8,), (2, 2, 2), (2, 4), (1, 2, 3), (4, 4), (2, 2, 2, 2)):
            for pairing in pairings(rims):
                if is_proper(rims, pairing):
                    web, lengths = web_of_pairing(rims, pairing)
                    found = pairing_of_web(web, lengths)
                    turned = {turned_pairing(rims, pairing, steps) for steps in all_turnings(rims)}
                    self.assertIn(found, turned)


class Turnings(unittest.TestCase, Refusing):
    def test_turned(self):
        for rims in ((4,), (1, 3), (2, 4), (6,), (1, 2, 3), (3, 3), (1, 1, 1, 1)):
            for pairing in pairings(rims):
                for steps in all_turnings(rims):
                    found = turned_pairing(rims, pairing, steps)
                    self.assertEqual(found, turned_by_words(rims, pairing, steps))
                    self.assertIs(is_proper(rims, found), is_proper(rims, pairing))
                self.assertEqual(turned_pairing(rims, pairing, (0,) * len(rims)), pairing)

    def test_alike_webs(self):
        for rims in ((6,), (8,), (2, 4), (4, 4), (2, 2, 2), (1, 2, 3)):
            proper = [pairing for pairing in pairings(rims) if is_proper(rims, pairing)]
            for one in proper[::3]:
                turned = {turned_pairing(rims, one, steps) for steps in all_turnings(rims)}
                for other in proper[::2]:
                    self.assertEqual(other in turned, self.make_alike(rims, one, other))

    def make_alike(self, rims, one, other):
        """Whether two pairings make alike webs by a likeness that keeps lengths."""
        web, lengths = web_of_pairing(rims, one)
        made, found = web_of_pairing(rims, other)
        move = likeness(web, made)
        if move is None:
            return False
        led = [None] * len(web)
        for head in web.heads:
            led[made.tie_of(move[head])] = lengths[web.tie_of(head)]
        return found in [led_by_words(made, tuple(led), symmetry) for symmetry in symmetries(made)]

    def test_turnings_that_keep(self):
        several = 0
        for rims in ((4,), (6,), (8,), (2, 4), (4, 4), (2, 2, 2), (1, 2, 3), (2, 2, 2, 2)):
            for pairing in pairings(rims):
                if is_proper(rims, pairing):
                    told = [turned_pairing(rims, pairing, steps) for steps in all_turnings(rims)].count(pairing)
                    several += told > 1
                    self.assertEqual(told, keeping_number(*web_of_pairing(rims, pairing)))
        self.assertGreater(several, 3)

    def test_wrong_steps(self):
        for steps in ((4,), (-1,), (0, 0), (), [0], (True,), (None,), (LONG,), ((1, 1),), 0):
            self.refuses(InvalidMove, turned_pairing, (4,), (2, 3, 0, 1), steps)
        self.refuses_kinds(InvalidMove, lambda value: turned_pairing((1, 3), (1, 0, 3, 2), value),
                           lambda value: row_of(2, is_short)(value) and value[0] == 0 and 0 <= value[1] < 3)
        self.refuses(InvalidMove, turned_pairing, (1, 3), (1, 0, 3, 2), (1, 0))


class Counts(unittest.TestCase, Refusing):
    def test_counts(self):
        for rims in RIMS:
            proper = [web_by_words(rims, pairing)[0].handles for pairing in pairings(rims)
                      if state_of(rims, pairing) == "proper"]
            product = 1
            for length in rims:
                product *= length
            for handles in range(3):
                if 2 * handles - 2 + len(rims) >= 1:
                    told = fraction_pair(Fraction(proper.count(handles), product))
                    self.assertEqual(count_by_pairings(handles, rims), told)

    def test_many_handles_and_rims(self):
        self.assertEqual(count_by_pairings(5, (12,)), (0, 1))
        self.assertEqual(count_by_pairings(3, (12,)), (495, 4))
        self.assertEqual(count_by_pairings(LONG - 1, (1,) * 8), (0, 1))
        self.assertEqual(count_by_pairings(0, (1, 1, 1, 1, 1, 1, 6)), (120, 1))
        self.assertEqual(count_by_pairings(0, (3, 4, 4)), (0, 1))

    def test_errors(self):
        for rims in ((12,), (1,) * 8, (6, 6), (11,)):
            self.assertIsNone(raised(count_by_pairings, 1, rims))
        for rims in ((13,), (14,), (6, 7), (1,) * 7 + (6,), (LONG - 1,)):
            self.refuses(TooMany, count_by_pairings, 1, rims, limit=12)
            self.refuses(TooMany, count_by_pairings, 7, rims, limit=12)
        for rims in ((1,), (13,), (3, 3), (13, 13)):
            self.refuses(Refused, count_by_pairings, 0, rims, reason=("pair",))
        self.refuses(InvalidNumber, count_by_pairings, -1, (0,), given=-1)
        self.refuses(InvalidRims, count_by_pairings, 0, (0,))
        self.refuses(InvalidRims, count_by_pairings, 0, (1,) * 9)


class Errors(unittest.TestCase, Refusing):
    def test_rims(self):
        for call in (lambda rims: is_pairing(rims, ()), lambda rims: next(pairings(rims), None)):
            self.refuses_kinds(InvalidRims, lambda value: None if too_long(value) else call(value), is_row(1))
        for wrong in ((), (0,), (1,) * 9, [4], (True,), (4, -1), (4, (4, 1)), None, 4, "4", (LONG,)):
            for call in (is_pairing, is_proper, side_after, side_web, web_of_pairing):
                self.refuses(InvalidRims, call, wrong, None)
            self.refuses(InvalidRims, turned_pairing, wrong, None, None)
            self.refuses(InvalidRims, next, pairings(wrong))

    def test_sums(self):
        self.assertIsNone(raised(next, pairings((12,))))
        for rims in ((13,), (6, 7), (14,), (1000,), (1001,), (LONG - 1,)):
            self.refuses(TooMany, next, pairings(rims), limit=12)

    def test_when_a_generator_raises(self):
        for rims, error in (((0,), InvalidRims), ((13,), TooMany)):
            found = pairings(rims)
            self.assertRaises(error, next, found)

    def test_long_pairings(self):
        for many in (1000, 1002):
            pairing = tuple([side ^ 1 for side in range(many)])
            for rims in ((many,), (many - 1, 1)):
                for call, told in ((is_proper, False), (side_web, None), (lambda rims, row: side_after(rims, 0), None),
                                   (lambda rims, row: turned_pairing(rims, row, (0,) * len(rims)), pairing)):
                    if many > 1000:
                        self.refuses(TooMany, call, rims, pairing, limit=1000)
                    elif told is not None:
                        self.assertEqual(call(rims, pairing), told)
                    else:
                        self.assertIsNone(raised(call, rims, pairing))
        self.refuses(TooMany, web_of_pairing, (1002,), tuple([side ^ 1 for side in range(1002)]), limit=1000)
        self.refuses(TooMany, side_after, (1001,), 1000, limit=1000)
        self.assertEqual(side_after((1000,), 999), 0)

    def test_what_comes_ahead_of_1000(self):
        pairing = tuple([side ^ 1 for side in range(1002)])
        self.refuses(InvalidNumber, side_after, (1001,), 1001, given=1001)
        self.refuses(InvalidNumber, side_after, (1001,), -1, given=-1)
        for call in (is_proper, side_web, web_of_pairing, lambda rims, row: turned_pairing(rims, row, None)):
            self.refuses(InvalidPairing, call, (1001,), pairing)
            self.refuses(InvalidPairing, call, (1002,), pairing[:1000])
            self.refuses(InvalidPairing, call, (LONG - 1,), None)
        self.refuses(InvalidMove, turned_pairing, (1002,), pairing, (1002,))
        self.refuses(TooMany, turned_pairing, (1002,), pairing, (1001,), limit=1000)

    def test_sides(self):
        for rims in ((4,), (2, 3), (1,)):
            self.refuses_kinds(InvalidNumber, lambda value: side_after(rims, value), between(0, sum(rims) - 1), "given")

    def test_wrong_pairings(self):
        for call in (is_proper, side_web, web_of_pairing, lambda rims, row: turned_pairing(rims, row, (0,))):
            self.refuses_kinds(InvalidPairing, lambda value: call((4,), value), lambda value: False)
            for wrong in ((0, 1, 2, 3), (1, 2, 3, 0), (1, 0), (2, 3, 0, True), [2, 3, 0, 1], (2, 3, 0, 4)):
                self.refuses(InvalidPairing, call, (4,), wrong)
            self.refuses(InvalidPairing, call, (3,), (1, 0, 2))

    def test_webs(self):
        self.refuses(InvalidWeb, pairing_of_web, None, None)
        self.refuses_kinds(InvalidLengths, lambda value: pairing_of_web(THETA, value),
                           lambda value: row_of(3, is_short)(value) and min(value) > 0)
        bar = Web(*row_of_ties(1))
        self.refuses(InvalidLengths, pairing_of_web, bar, (0,))
        self.refuses(InvalidOperation, pairing_of_web, bar, (1,))
        self.refuses(InvalidOperation, pairing_of_web, bar, (501,))
        self.refuses(InvalidOperation, pairing_of_web, parted(CROSS, 0, 0), (1, 1, 1))


def too_long(value):
    """Whether these are rims with more than twelve sides."""
    return is_row(1)(value) and sum(value) > 12
