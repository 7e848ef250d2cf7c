"""[4.1] to [4.6]: codes, likenesses, symmetries, and webs with other names or ends."""

import itertools
import random
import unittest

from bandrims.bands import codes
from bandrims.bands.changes import drawn_together
from bandrims.bands.codes import (
    are_alike, code_from, has_turning, is_code, is_likeness, least_code, likeness, mirrored, renamed, rim_orders,
    shuffled, symmetries, symmetry_number, web_of_code)
from bandrims.bands.webs import Web
from bandrims.errors import InvalidOperation
from bandrims.lots.lists import full_webs
from tests.kinds import CROSS, LONG, RINGS, THETA, Refusing, kinds
from tests.test_webs import row_of_ties, some_webs

# Three ties from one place to another one, with one handle and one rim.
HEXAGON = Web((2, 3, 4, 5, 0, 1), (1, 0, 3, 2, 5, 4), (0, 0, 0, 0, 0, 0))


def ends(web):
    """All ends of a web."""
    return range(len(web.after))


def code_by_words(web, start):
    """The code from an end, as [4.1] tells it."""
    met = [start]
    spot = 0
    while spot < len(met):
        for near in (web.after[met[spot]], web.mate[met[spot]]):
            if near not in met:
                met.append(near)
        spot += 1
    return tuple([(met.index(web.after[end]), met.index(web.mate[end]), web.names[end]) for end in met])


def is_likeness_by_words(one, other, move):
    """Whether a sequence of ends is a likeness, as [0.12] tells it."""
    return all([move[one.after[i]] == other.after[move[i]] and move[one.mate[i]] == other.mate[move[i]]
                and one.names[i] == other.names[move[i]] for i in ends(one)])


def all_likenesses(one, other):
    """All likenesses, by trying all sequences of ends."""
    if len(one) != len(other):
        return []
    return [move for move in itertools.permutations(ends(one)) if is_likeness_by_words(one, other, move)]


def small_webs():
    """Webs of at most three ties, with and without symmetries, with ends in mixed sequence."""
    source = random.Random(3)
    found = [THETA, CROSS, RINGS, HEXAGON, Web.bundle(1), Web.bundle(2), Web(*row_of_ties(1)), Web(*row_of_ties(3)),
             Web((0, 1), (1, 0), (0, 0)), Web((1, 2, 3, 0), (1, 0, 3, 2), (0, 1, 0, 2))]
    for web in list(found):
        found.append(mixed(web, source))
    for web in list(found):
        if len(web.rims) > 1:
            found.append(renamed(web, tuple(reversed(range(len(web.rims))))))
    return found + [web for web in some_webs() if len(web) <= 3][:20]


def mixed(web, source):
    """The web with its ends in a mixed sequence."""
    return shuffled(web, tuple(source.sample(list(ends(web)), len(web.after))))


def bare_likenesses(one, other):
    """All likenesses but for the names, by trying all sequences of ends."""
    return [move for move in itertools.permutations(ends(one))
            if all([move[one.after[i]] == other.after[move[i]] and move[one.mate[i]] == other.mate[move[i]]
                    for i in ends(one)])]


def tree(*branches):
    """A web without handles and with one rim: branches of so many ties at one place."""
    ends_at = []
    many = 0
    for length in branches:
        for step in range(length):
            ends_at.append((many, many + 1))
            many += 2
    after = list(range(many))
    firsts = []
    spot = 0
    for length in branches:
        firsts.append(2 * spot)
        for step in range(spot, spot + length - 1):
            after[2 * step + 1], after[2 * step + 2] = 2 * step + 2, 2 * step + 1
        spot += length
    for k, first in enumerate(firsts):
        after[first] = firsts[(k + 1) % len(firsts)]
    return Web(tuple(after), tuple([end ^ 1 for end in range(many)]), (0,) * many)


class Codes(unittest.TestCase, Refusing):
    def test_constants(self):
        self.assertEqual((codes.MOST_ENDS, codes.MOST_RIMS), (48, 8))

    def test_codes_by_words(self):
        for web in some_webs() + small_webs():
            for end in ends(web):
                self.assertEqual(code_from(web, end), code_by_words(web, end))

    def test_kinds_of_values(self):
        code = code_from(THETA, 3)
        self.assertIs(type(code), tuple)
        self.assertEqual({type(row) for row in code}, {tuple})
        self.assertEqual({type(number) for row in code for number in row}, {int})

    def test_least_codes(self):
        for web in some_webs() + small_webs():
            self.assertEqual(least_code(web), min([code_by_words(web, end) for end in ends(web)]))

    def test_a_code_tells_a_web_with_this_code(self):
        for web in some_webs() + small_webs():
            for end in list(ends(web))[:6]:
                code = code_from(web, end)
                self.assertIs(is_code(code), True)
                made = web_of_code(code)
                self.assertEqual((made.after, made.mate, made.names), tuple(zip(*code)))
                self.assertEqual(code_from(made, 0), code)
                self.assertTrue(is_likeness(made, web, likeness(made, web)))

    def test_what_is_a_code(self):
        # All triples of two and of four ends: codes are what some web has from 0.
        for many in (1, 2):
            rows = list(itertools.product(range(many), range(many), (0, 1)))
            for value in itertools.product(rows, repeat=many):
                self.assertIs(is_code(value), self.tells_web(value))
        source = random.Random(5)
        right = 0
        for web in small_webs():
            for _ in range(40):
                value = [list(row) for row in code_from(web, 0)]
                value[source.randrange(len(value))][source.randrange(3)] = source.randrange(-1, len(value) + 1)
                value = tuple([tuple(row) for row in value])
                right += is_code(value)
                self.assertIs(is_code(value), self.tells_web(value), value)
        self.assertGreater(right, 0)

    def tells_web(self, value):
        """Whether a tuple of triples of integers is the code from 0 of the web that it tells."""
        try:
            web = Web(*zip(*value))
        except ValueError:
            return False
        return code_by_words(web, 0) == value

    def test_a_web_that_is_numbered_otherwise_is_no_code(self):
        value = tuple(zip(THETA.after, THETA.mate, THETA.names))
        self.assertIs(is_code(value), False)
        self.refuses(InvalidOperation, web_of_code, value)

    def test_edges_of_codes(self):
        for web in (Web(*row_of_ties(1)), Web(*row_of_ties(24)), Web.bundle(8), Web.crossed(12)):
            code = least_code(web)
            self.assertIs(is_code(code), True)
            self.assertEqual(least_code(web_of_code(code)), code)
        long = tuple([(k + 1 - 2 * (k % 2), k, 0) for k in range(50)])
        self.assertIs(is_code(long), False)
        for ties in (24, 25):
            after, mate, names = row_of_ties(ties)
            step = 2 * ties - 1
            # From its last end a row of ties is met end by end.
            value = [(after[step - k], mate[step - k], 0) for k in range(2 * ties)]
            value = tuple([(step - ahead, step - other, name) for ahead, other, name in value])
            self.assertIs(is_code(value), ties == 24)

    def test_wrong_codes(self):
        code = least_code(CROSS)
        for value in kinds():
            self.assertIs(is_code(value), False)
            for place in range(len(code)):
                self.assertIs(is_code(code[:place] + (value,) + code[place + 1:]), False)
        for wrong in (list(code), code[:-1], code + code[:1], tuple([list(row) for row in code]), ()):
            self.assertIs(is_code(wrong), False)
            self.refuses(InvalidOperation, web_of_code, wrong)
        one = ((0, 1, 0), (1, 0, 0))
        self.assertIs(is_code(one), True)
        for wrong in (((0, True, 0), (1, 0, 0)), ((0, 1, False), (1, 0, 0)), ((0, 1, 0), (True, 0, 0)),
                      ((0, 1, 0), (1, 0, LONG)), ((0, 1, 1), (1, 0, 1)), ((0, 1), (1, 0)), ((0, 1, 0, 0), (1, 0, 0, 0))):
            self.assertIs(is_code(wrong), False)
            self.refuses(InvalidOperation, web_of_code, wrong)


class Likenesses(unittest.TestCase, Refusing):
    def test_all_likenesses_of_small_webs(self):
        webs = [web for web in small_webs() if len(web) <= 2] + [THETA, RINGS, HEXAGON, shuffled(RINGS, (3, 5, 1, 0, 2, 4))]
        alike = 0
        for one, other in itertools.product(webs, repeat=2):
            told = all_likenesses(one, other)
            alike += len(told) > 0
            self.assertIs(are_alike(one, other), len(told) > 0)
            self.assertEqual(least_code(one) == least_code(other), len(told) > 0)
            self.assertEqual(len({move[0] for move in told}), len(told))
            found = likeness(one, other)
            self.assertIn(found, told or [None])
        self.assertGreater(alike, len(webs))

    def test_equal_codes_are_likenesses(self):
        for web in some_webs()[::5]:
            other = mixed(web, random.Random(len(web)))
            for one_end, other_end in itertools.product(list(ends(web))[:5], ends(other)):
                equal = code_from(web, one_end) == code_from(other, other_end)
                leads = [move for move in symmetries(web) if self.led(web, other, move)[one_end] == other_end]
                self.assertEqual(len(leads), int(equal))

    def led(self, web, other, move):
        """A symmetry, followed by a likeness."""
        found = likeness(web, other)
        return [found[end] for end in move]

    def test_shuffled_webs_are_alike(self):
        source = random.Random(8)
        for web in some_webs() + small_webs():
            order = tuple(source.sample(list(ends(web)), len(web.after)))
            other = shuffled(web, order)
            self.assertEqual(least_code(other), least_code(web))
            self.assertTrue(is_likeness(web, other, order))
            self.assertTrue(are_alike(web, other))
            found = likeness(web, other)
            self.assertTrue(is_likeness_by_words(web, other, found))
            self.assertTrue(is_likeness(web, other, found))
            self.assertEqual((other.degrees, other.handles), (tuple([len(place) for place in other.places]), web.handles))

    def test_which_are_likenesses(self):
        source = random.Random(9)
        for web in (THETA, CROSS, RINGS, HEXAGON):
            other = mixed(web, source)
            told = all_likenesses(web, other)
            for move in itertools.permutations(ends(web)):
                self.assertIs(is_likeness(web, other, move), move in told)

    def test_each_of_the_three_counts(self):
        other_after = Web((4, 5, 0, 1, 2, 3), (1, 0, 3, 2, 5, 4), HEXAGON.names)
        other_names = renamed(THETA, (1, 0, 2))
        same = tuple(range(6))
        self.assertIs(is_likeness(THETA, THETA, same), True)
        self.assertIs(is_likeness(THETA, other_names, same), False)
        self.assertIs(is_likeness(HEXAGON, other_after, same), False)
        round_place = (1, 2, 3, 4, 5, 6, 7, 0)
        one = Web(round_place, (4, 5, 6, 7, 0, 1, 2, 3), (0,) * 8)
        other = Web(round_place, (2, 3, 0, 1, 6, 7, 4, 5), (0,) * 8)
        self.assertIs(is_likeness(one, other, tuple(range(8))), False)
        self.assertIs(are_alike(one, other), False)

    def test_names_count(self):
        self.assertEqual([are_alike(THETA, renamed(THETA, order)) for order in itertools.permutations(range(3))],
                         [True] * 6)
        told = [are_alike(RINGS, renamed(RINGS, order)) for order in itertools.permutations(range(3))]
        self.assertEqual(told, [True, False, False, False, False, True])
        self.assertIsNone(likeness(RINGS, renamed(RINGS, (1, 0, 2))))

    def test_webs_of_unlike_sizes(self):
        for one, other in ((THETA, CROSS), (Web.bundle(3), Web.bundle(4)), (Web.crossed(2), Web.bundle(4))):
            self.assertIs(are_alike(one, other), False)
            self.assertIsNone(likeness(one, other))
            self.assertIs(is_likeness(one, other, tuple(ends(one))), False)
            self.assertIs(is_likeness(one, other, tuple(ends(other))), False)
        for one, other in ((HEXAGON, CROSS), (CROSS, HEXAGON), (THETA, Web.bundle(1)), (Web.bundle(1), CROSS)):
            for move in itertools.permutations(ends(one)):
                self.assertIs(is_likeness(one, other, move), False)

    def test_wrong_moves(self):
        self.judges_kinds(lambda value: is_likeness(THETA, THETA, value), lambda value: False)
        self.judges_kinds(lambda value: is_likeness(CROSS, CROSS, value), lambda value: False)
        lone = Web((0, 1), (1, 0), (0, 0))
        self.judges_kinds(lambda value: is_likeness(lone, lone, value), lambda value: repr(value) in ("(0, 1)", "(1, 0)"))
        same = tuple(range(6))
        for wrong in (list(same), same[:-1], same + (6,), (0,) * 6, (6,) + same[1:], (-6,) + same[1:], (False, True) + same[2:],
                      same[:5] + (5 - LONG,)):
            self.assertIs(is_likeness(THETA, THETA, wrong), False)

    def test_each_correct_likeness_is_accepted(self):
        for move in itertools.permutations(range(4)):
            told = move in ((0, 1, 2, 3), (1, 0, 3, 2), (2, 3, 1, 0), (3, 2, 0, 1))
            self.assertIs(is_likeness(CROSS, CROSS, move), told)


class Symmetries(unittest.TestCase):
    def test_symmetries_of_small_webs(self):
        for web in small_webs():
            told = all_likenesses(web, web)
            self.assertEqual(symmetries(web), tuple(sorted(told)))
            self.assertEqual(symmetry_number(web), len(told))

    def test_groups(self):
        several = 0
        for web in some_webs() + small_webs() + list(full_webs(1, 1)) + list(full_webs(2, 1))[::7]:
            found = symmetries(web)
            several += len(found) > 1
            self.assertEqual(list(found), sorted(set(found)))
            self.assertIn(tuple(ends(web)), found)
            self.assertEqual(2 * len(web) % len(found), 0)
            self.assertEqual(symmetry_number(web), len(found))
            least = least_code(web)
            self.assertEqual(len(found), [code_from(web, end) for end in ends(web)].count(least))
            for move in found:
                self.assertTrue(is_likeness(web, web, move))
                back = tuple([move.index(end) for end in ends(web)])
                self.assertIn(back, found)
                for other in found:
                    self.assertIn(tuple([other[end] for end in move]), found)
                if move != tuple(ends(web)):
                    self.assertTrue(all([move[end] != end for end in ends(web)]))
        self.assertGreater(several, 5)

    def test_numbers(self):
        told = [symmetry_number(web) for web in (THETA, CROSS, RINGS, HEXAGON, Web.bundle(1), Web.bundle(8),
                                                 Web.crossed(2), Web.crossed(12), Web(*row_of_ties(24)))]
        self.assertEqual(told, [1, 4, 1, 6, 2, 1, 2, 12, 2])

    def test_names_are_kept(self):
        square = Web((7, 2, 1, 4, 3, 6, 5, 0), (1, 0, 3, 2, 5, 4, 7, 6), (0, 1, 0, 1, 0, 1, 0, 1))
        self.assertEqual(symmetry_number(square), 4)
        self.assertEqual((len(bare_likenesses(THETA, THETA)), symmetry_number(THETA)), (6, 1))


class OtherWebs(unittest.TestCase, Refusing):
    def test_renamed(self):
        for web in some_webs():
            for order in list(itertools.permutations(range(len(web.rims))))[:24:5]:
                made = renamed(web, order)
                self.assertEqual((made.after, made.mate), (web.after, web.mate))
                self.assertEqual(made.names, tuple([order[name] for name in web.names]))
                for name, rim in enumerate(web.rims):
                    self.assertEqual(made.rims[order[name]], rim)
        self.assertEqual(renamed(THETA, (1, 2, 0)).names, (1, 2, 2, 0, 0, 1))

    def test_shuffled(self):
        source = random.Random(12)
        for web in some_webs():
            order = tuple(source.sample(list(ends(web)), len(web.after)))
            made = shuffled(web, order)
            for end in ends(web):
                self.assertEqual(made.after[order[end]], order[web.after[end]])
                self.assertEqual(made.mate[order[end]], order[web.mate[end]])
                self.assertEqual(made.names[order[end]], web.names[end])

    def test_mirrored(self):
        for web in some_webs() + small_webs():
            made = mirrored(web)
            self.assertEqual(made.mate, web.mate)
            for end in ends(web):
                self.assertEqual(made.after[web.after[end]], end)
                self.assertEqual(made.names[end], web.names[web.mate[end]])
            self.assertEqual(sorted(map(sorted, made.places)), sorted(map(sorted, web.places)))
            self.assertEqual([sorted([web.mate[end] for end in rim]) for rim in made.rims], [sorted(rim) for rim in web.rims])
            self.assertEqual(made.handles, web.handles)
            self.assertEqual(mirrored(made), web)

    def test_wrong_sequences(self):
        for call, many in ((renamed, 3), (shuffled, 6)):
            self.refuses_kinds(InvalidOperation, lambda value: call(THETA, value), lambda value: False)
            same = tuple(range(many))
            self.assertEqual(call(THETA, same), THETA)
            for wrong in (list(same), same[:-1], same + (many,), (0,) * many, (many,) + same[1:], (-1,) + same[1:],
                          (False,) + same[1:], same[:1] + (True,) + same[2:], (LONG,) + same[1:]):
                self.refuses(InvalidOperation, call, THETA, wrong)
        self.refuses(InvalidOperation, renamed, CROSS, (0, 1))
        self.assertEqual(renamed(CROSS, (0,)), CROSS)

    def test_rim_orders_of_small_webs(self):
        for web in small_webs() + [Web.bundle(4), Web.bundle(5)]:
            many = len(web.rims)
            told = [order for order in itertools.permutations(range(many)) if are_alike(renamed(web, order), web)]
            self.assertEqual(rim_orders(web), tuple(told))

    def test_rim_orders_are_a_group(self):
        for web in some_webs() + [Web.bundle(8)]:
            found = rim_orders(web)
            self.assertEqual(list(found), sorted(set(found)))
            self.assertIn(tuple(range(len(web.rims))), found)
            for order in found[:6]:
                self.assertTrue(are_alike(renamed(web, order), web))
                for other in found:
                    self.assertIn(tuple([other[name] for name in order]), found)

    def test_rim_orders_come_of_bare_likenesses(self):
        for web in small_webs():
            told = set()
            for move in bare_likenesses(web, web):
                order = [None] * len(web.rims)
                for end in ends(web):
                    order[web.names[end]] = web.names[move[end]]
                told.add(tuple(order))
            self.assertEqual(set(rim_orders(web)), told)

    def test_turnings(self):
        kinds_found = set()
        for web in small_webs():
            told = len(bare_likenesses(web, mirrored(web))) > 0
            self.assertIs(has_turning(web), told)
        for web in some_webs()[::3] + [tree(1, 2, 3), tree(1, 2, 2), tree(1, 1, 2, 3)]:
            if len(web.rims) <= 4:
                orders = itertools.permutations(range(len(web.rims)))
                told = any([are_alike(renamed(mirrored(web), order), web) for order in orders])
                kinds_found.add(told)
                self.assertIs(has_turning(web), told)
        self.assertEqual(kinds_found, {True, False})

    def test_not_true(self):
        branches = tree(1, 2, 3)
        self.assertEqual((branches.handles, len(branches.rims), branches.degrees), (0, 1, (3, 1, 2, 1, 2, 2, 1)))
        self.assertIs(has_turning(branches), False)
        self.assertIs(are_alike(branches, mirrored(branches)), False)
        lots = {}
        for web in full_webs(2, 1):
            lots.setdefault((symmetry_number(web), len(web)), []).append(web)
        one, other = lots[(1, 6)][:2]
        self.assertIs(are_alike(one, other), False)

    def test_drawing_keeps_likeness(self):
        other = mixed(THETA, random.Random(1))
        move = likeness(THETA, other)
        for end in ends(THETA):
            self.assertTrue(are_alike(drawn_together(THETA, end), drawn_together(other, move[end])))
