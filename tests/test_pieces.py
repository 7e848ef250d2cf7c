"""[16.1] to [16.7]: pieces joined at nodes."""

import itertools
import random
import unittest
from fractions import Fraction

from bandrims.base.formulas import Formula
from bandrims.errors import InvalidNumber, InvalidPieces, InvalidRims, Refused, TooMany
from bandrims.nodes import pieces as module
from bandrims.nodes.pieces import (
    Pieces, all_joined, are_alike_pieces, closed_euler, joined_count, joined_form, joined_terms, node_numbers)
from bandrims.signs.euler import euler_number
from bandrims.tables.forms import count, extended_count, form_top
from tests.kinds import CROSS, LONG, Refusing, is_short, kinds, raised, row_of, short
from tests.test_forms import exponents, value
from tests.test_solutions import fraction_pair

# The pairs with a depth of at most 3, and the first ones beyond.
SMALL = [(0, 3), (0, 4), (0, 5), (0, 6), (1, 1), (1, 2), (1, 3)]
FURTHER = [(0, 7), (0, 8), (1, 4), (1, 5), (2, 1), (2, 2), (3, 1), (LONG - 1, 8)]
LOOP = Pieces(((0, (0, 1)), (1, ())), ((0, 1),))


def are_pieces(kinds_told, nodes):
    """Whether both tell joined pieces, by [16.1] and the bounds of the class."""
    if type(kinds_told) is not tuple or type(nodes) is not tuple or not 1 <= len(kinds_told) <= 6 or len(nodes) > 6:
        return False
    for kind in kinds_told:
        if type(kind) is not tuple or len(kind) != 2 or not is_short(kind[0]) or not 0 <= kind[0] <= 20:
            return False
        if type(kind[1]) is not tuple or not all([is_short(name) for name in kind[1]]):
            return False
        if list(kind[1]) != sorted(set(kind[1])):
            return False
    names = sorted([name for kind in kinds_told for name in kind[1]])
    if names != list(range(len(names))) or not 1 <= len(names) <= 8:
        return False
    for node in nodes:
        if not row_of(2, is_short)(node) or not 0 <= node[0] <= node[1] < len(kinds_told):
            return False
    if list(nodes) != sorted(nodes):
        return False
    ends = [at for node in nodes for at in node]
    if any([2 * g - 2 + len(rims) + ends.count(at) < 1 for at, (g, rims) in enumerate(kinds_told)]):
        return False
    met = {0}
    for _ in kinds_told:
        met |= {at for node in nodes if met & set(node) for at in node}
    return len(met) == len(kinds_told)


def numbered_anew(kinds_told, nodes, order):
    """The pieces with the piece order[i] at the place i."""
    place_of = {at: place for place, at in enumerate(order)}
    joined = sorted([tuple(sorted([place_of[low], place_of[high]])) for low, high in nodes])
    return tuple([kinds_told[at] for at in order]), tuple(joined)


def least_by_words(joined):
    """The least kinds and nodes of [16.3]."""
    return min([numbered_anew(joined.kinds, joined.nodes, order)
                for order in itertools.permutations(range(len(joined)))])


def rearrangements_by_words(joined):
    """How many rearrangements there are, all ways to lead points to points being tried."""
    points = [(k, side) for k in range(len(joined.nodes)) for side in (0, 1)]
    found = 0
    for led in itertools.permutations(points):
        move = dict(zip(points, led))
        if any([move[(k, 0)][0] != move[(k, 1)][0] for k in range(len(joined.nodes))]):
            continue
        places = {}
        for (k, side), (far, other) in move.items():
            places.setdefault(joined.nodes[k][side], set()).add(joined.nodes[far][other])
        found += all([len(to) == 1 and joined.kinds[at] == joined.kinds[min(to)] for at, to in places.items()])
    return found


def drawn_by_words(joined, number):
    """The kinds and nodes of [16.4], the new piece standing last."""
    v, w = joined.nodes[number]
    rest = joined.nodes[:number] + joined.nodes[number + 1:]
    stay = [at for at in range(len(joined)) if at not in (v, w)]
    rims = sorted([name for at in {v, w} for name in joined.kinds[at][1]])
    handles = sum([joined.kinds[at][0] for at in {v, w}]) + (v == w)
    place_of = {at: place for place, at in enumerate(stay)}
    told = [tuple(sorted([place_of.get(at, len(stay)) for at in node])) for node in rest]
    return tuple([joined.kinds[at] for at in stay]) + ((handles, tuple(rims)),), tuple(sorted(told))


def all_by_words(handles, many):
    """The kinds and nodes of all least joined pieces of the pair, all that the bounds let being tried."""
    found = set()
    depth = 3 * handles - 3 + many
    for size in range(1, depth + 2):
        pairs = list(itertools.combinations_with_replacement(range(size), 2))
        for homes in itertools.product(range(size), repeat=many):
            rims = [tuple([name for name in range(many) if homes[name] == at]) for at in range(size)]
            for each in itertools.product(range(handles + 1), repeat=size):
                told = tuple(zip(each, rims))
                joints = handles - sum(each) + size - 1
                if list(told) != sorted(told) or not 0 <= joints <= depth:
                    continue
                for nodes in itertools.combinations_with_replacement(pairs, joints):
                    if are_pieces(told, nodes):
                        found.add(least_by_words(Pieces(told, nodes)))
    return sorted(found)


def some_pieces():
    """Joined pieces of all small pairs, and larger ones, numbered anew."""
    source = random.Random(161)
    found = [joined for pair in SMALL for joined in all_joined(*pair)[::3]]
    found += [Pieces(((0, ()), (0, ()), (20, (0,))), ((0, 0), (0, 1), (1, 1), (1, 2))),
              Pieces(((0, (0,)), (0, ()), (0, ()), (0, ())), ((0, 1), (0, 2), (1, 2), (1, 3), (2, 3), (3, 3))),
              Pieces(((0, (0, 1)), (0, (2, 3)), (0, (4, 5)), (0, (6, 7)), (2, ()), (3, ())),
                     ((0, 4), (1, 4), (2, 5), (3, 5), (4, 5), (4, 5))),
              Pieces(((1, (0,)), (1, ()), (1, ()), (1, ()), (1, ()), (1, ())), ((0, 1), (0, 2), (0, 3), (0, 4), (0, 5))),
              Pieces(((0, (0,)),), ((0, 0),) * 6)]
    for joined in found:
        order = source.sample(range(len(joined)), len(joined))
        yield Pieces(*numbered_anew(joined.kinds, joined.nodes, order))


class Making(unittest.TestCase, Refusing):
    def test_constants(self):
        self.assertEqual((module.MAX_DEPTH, module.MOST_PIECES, module.MOST_NODES), (3, 6, 6))

    def test_properties(self):
        for joined in some_pieces():
            kinds_told, nodes = joined.kinds, joined.nodes
            ends = [at for node in nodes for at in node]
            self.assertEqual(joined.points, tuple([ends.count(at) for at in range(len(kinds_told))]))
            self.assertEqual(joined.handles, sum([g for g, _ in kinds_told]) + len(nodes) + 1 - len(kinds_told))
            self.assertEqual(joined.many, len([name for _, rims in kinds_told for name in rims]))
            self.assertEqual(joined.depth, 3 * joined.handles - 3 + joined.many)
            parts = [3 * g - 3 + len(rims) + points for (g, rims), points in zip(kinds_told, joined.points)]
            self.assertEqual(joined.depth, sum(parts) + len(nodes))
            self.assertEqual(len(joined), len(kinds_told))
            self.assertEqual(str(joined), f"{len(kinds_told)} pieces, {len(nodes)} nodes")
            for one in (joined.points, joined.kinds, joined.nodes):
                self.assertIs(type(one), tuple)

    def test_equal(self):
        every = list(some_pieces())
        for one in every:
            for other in every:
                self.assertIs(one == other, (one.kinds, one.nodes) == (other.kinds, other.nodes))
                self.assertIs(one != other, (one.kinds, one.nodes) != (other.kinds, other.nodes))
        self.judges_kinds(lambda other: LOOP == other, lambda other: isinstance(other, Pieces) and len(other) == 2)
        for other in kinds():
            self.assertIs(LOOP != other, not LOOP == other)
        self.assertFalse(LOOP == (LOOP.kinds, LOOP.nodes))

    def test_not_iterated(self):
        self.assertRaises(TypeError, iter, LOOP)
        self.assertRaises(TypeError, lambda: 1 in LOOP)

    def test_wrong_kinds_and_nodes(self):
        wrong = [(), ((0, (0,)),), ((0, ()),), ((0, (0, 1, 3)),), ((0, (1, 2, 3)),), ((0, (0, 0, 1, 2)),), ((0, (0, 2, 1)),),
                 ((True, (0, 1, 2)),), ((0, (False, 1, 2)),), ((0, (0, True, 2)),), [(0, (0, 1, 2))], ([0, (0, 1, 2)],),
                 ((0, [0, 1, 2]),), ((0, (0, 1, 2), 0),), ((-1, (0, 1, 2, 3, 4)),), ((21, (0,)),), ((LONG, (0,)),),
                 ((0, (0, 1, 2)), (0, (3, 4, 5))), ((0, tuple(range(9))),), ((2, ()),), ((0, (0, LONG, 1)),), ((0, (0, 1, None)),),
                 ((0, (-1, 0, 1)),), ((None, (0, 1, 2)),), (0, (0, 1, 2)), ((0,),), ((0, 0),), "00", None, ((0, "012"),)]
        for told in wrong:
            self.refuses(InvalidPieces, Pieces, told, ())
            self.refuses(InvalidPieces, Pieces, told, None)
        for told in kinds():
            if not are_pieces(told, ()):
                self.refuses(InvalidPieces, Pieces, told, ())
            if not are_pieces(((0, (0, 1, 2)),), told):
                self.refuses(InvalidPieces, Pieces, ((0, (0, 1, 2)),), told)
        two = ((0, (0, 1)), (0, (2, 3)))
        for nodes in ((), ((1, 0),), [(0, 1)], ([0, 1],), ((0, 2),), ((-1, 0),), ((0, True),), ((False, 1),), ((0, 0),), ((1, 1),),
                      ((0, 1), (0, 0)), ((0, 1, 1),), ((0,),), (0, 1), ((0, None),), ((0, LONG),), ((0, 0), (1, 1)), None, "01",
                      ((1, 1), (0, 1)), ((0, 1),) * 7):
            self.refuses(InvalidPieces, Pieces, two, nodes)
        self.assertIsNone(raised(Pieces, two, ((0, 1),)))

    def test_edges(self):
        rights = [(((0, tuple(range(8))),), ()), (((20, (0,)),), ()), (((0, (0,)),), ((0, 0),) * 6),
                  (((1, (0,)),) + ((1, ()),) * 5, tuple([(0, k) for k in range(1, 6)])),
                  (((0, (0, 1)), (0, (2, 3))), ((0, 1),) * 6), (((0, (0, 1, 2)),), ()), (((1, (0,)),), ())]
        for told, nodes in rights:
            self.assertTrue(are_pieces(told, nodes))
            self.assertIsNone(raised(Pieces, told, nodes))
        wrongs = [(((0, tuple(range(9))),), ()), (((21, (0,)),), ()), (((0, (0,)),), ((0, 0),) * 7),
                  (((1, (0,)),) + ((1, ()),) * 6, tuple([(0, k) for k in range(1, 7)])),
                  (((0, (0,)), (1, ())), ((0, 1),)), (((0, (0, 1)), (0, ())), ((0, 1), (0, 1))), (((0, (0, 1)),), ())]
        for told, nodes in wrongs:
            self.refuses(InvalidPieces, Pieces, told, nodes)

    def test_by_words(self):
        source = random.Random(162)
        rights = 0
        for _ in range(4000):
            size = source.randint(1, 3)
            homes = [source.randrange(size) for _ in range(source.randint(0, 3))]
            told = tuple([(source.randint(0, 1), tuple([name for name in range(len(homes)) if homes[name] == at]))
                          for at in range(size)])
            nodes = tuple([tuple([source.randint(0, size - 1) for _ in "vw"]) for _ in range(source.randint(0, 4))])
            if source.random() < 0.9:
                nodes = tuple(sorted([tuple(sorted(node)) for node in nodes]))
            right = are_pieces(told, nodes)
            rights += right
            self.assertIs(type(raised(Pieces, told, nodes)), type(None) if right else InvalidPieces)
        self.assertGreater(rights, 300)


class Likeness(unittest.TestCase, Refusing):
    def test_least(self):
        for joined in some_pieces():
            least = joined.least()
            self.assertEqual((least.kinds, least.nodes), least_by_words(joined))
            self.assertEqual(least.least(), least)
            self.assertIs(are_alike_pieces(joined, least), True)
            self.assertIs(are_alike_pieces(least, joined), True)

    def test_alike(self):
        every = list(some_pieces())
        several = 0
        for one in every[::3]:
            for other in every[::3]:
                told = least_by_words(one) == least_by_words(other)
                self.assertIs(are_alike_pieces(one, other), told)
                several += told
        self.assertGreater(several, 20)
        for other in kinds():
            self.assertIs(type(are_alike_pieces(LOOP, other)), bool)
            if not isinstance(other, Pieces):
                self.assertIs(are_alike_pieces(LOOP, other), False)
                self.refuses(InvalidPieces, are_alike_pieces, other, LOOP)

    def test_not_true(self):
        # Equal kinds and equal points, and yet not alike.
        told = ((0, ()), (0, ()), (0, (0,)))
        one = Pieces(told, ((0, 0), (0, 1), (1, 1), (1, 2), (2, 2)))
        other = Pieces(told, ((0, 1), (0, 1), (0, 1), (1, 2), (2, 2)))
        self.assertEqual(one.points, other.points)
        self.assertFalse(are_alike_pieces(one, other))
        self.assertLess(min([Fraction(*pair) for pair in joined_terms(1, (2, 2))]), 0)

    def test_rearrangements(self):
        for joined in some_pieces():
            if len(joined.nodes) <= 3:
                self.assertEqual(joined.rearrangements, rearrangements_by_words(joined))
                self.assertEqual(joined.rearrangements, joined.least().rearrangements)
        for told, nodes, many in ((((0, (0,)),), ((0, 0),) * 6, 720 * 64),
                                  (((1, (0,)),) + ((1, ()),) * 5, tuple([(0, k) for k in range(1, 6)]), 120),
                                  (((0, (0,)), (0, ()), (0, ())), ((0, 1), (0, 2), (1, 2), (1, 2)), 4),
                                  (((0, (0, 1, 2)),), (), 1)):
            self.assertEqual(Pieces(told, nodes).rearrangements, many)

    def test_drawn(self):
        for joined in some_pieces():
            for number in range(len(joined.nodes)):
                rows = drawn_by_words(joined, number)
                if max([g for g, _ in rows[0]]) > 20:
                    self.refuses(TooMany, joined.drawn, number, limit=20)
                    continue
                made = joined.drawn(number)
                told = Pieces(*rows)
                self.assertEqual((made.kinds, made.nodes), least_by_words(told))
                self.assertEqual((made.handles, made.many, made.depth), (joined.handles, joined.many, joined.depth))
                self.assertEqual(len(made.nodes), len(joined.nodes) - 1)

    def test_drawn_errors(self):
        for wrong in (-1, 1, True, None, "0", (0, 1), LONG, [0]):
            self.refuses(InvalidNumber, LOOP.drawn, wrong, given=wrong)
        self.refuses(InvalidNumber, Pieces(((0, (0, 1, 2)),), ()).drawn, 0, given=0)
        for told, nodes in ((((20, (0,)),), ((0, 0),)), (((20, (0,)), (1, ())), ((0, 1),)), (((11, (0,)), (10, ())), ((0, 1),))):
            self.refuses(TooMany, Pieces(told, nodes).drawn, 0, limit=20)
            self.refuses(InvalidNumber, Pieces(told, nodes).drawn, 1, given=1)
        self.assertEqual(Pieces(((19, (0,)),), ((0, 0),)).drawn(0), Pieces(((20, (0,)),), ()))
        self.assertEqual(Pieces(((10, (0,)), (10, ())), ((0, 1),)).drawn(0), Pieces(((20, (0,)),), ()))


class Lists(unittest.TestCase, Refusing):
    def test_all(self):
        for handles, many in SMALL:
            found = all_joined(handles, many)
            self.assertIs(type(found), tuple)
            self.assertTrue(all([type(joined) is Pieces for joined in found]))
            rows = [(joined.kinds, joined.nodes) for joined in found]
            if many < 6:
                self.assertEqual(rows, all_by_words(handles, many))
            self.assertEqual(rows, sorted(set(rows)))
            for joined in found:
                self.assertEqual((joined.handles, joined.many), (handles, many))
                self.assertEqual(joined, joined.least())

    def test_drawing_leads_to_all(self):
        for pair in SMALL:
            found = all_joined(*pair)
            rows = [(joined.kinds, joined.nodes) for joined in found]
            led = set()
            for joined in found:
                for number in range(len(joined.nodes)):
                    made = joined.drawn(number)
                    self.assertIn((made.kinds, made.nodes), rows)
                    led.add((made.kinds, made.nodes))
            depth = found[0].depth
            self.assertEqual(led, {row for row, joined in zip(rows, found) if len(joined.nodes) < depth})

    def test_numbers(self):
        for pair in SMALL:
            depth = 3 * pair[0] - 3 + pair[1]
            told = [len(joined.nodes) for joined in all_joined(*pair)]
            self.assertEqual(node_numbers(*pair), tuple([told.count(k) for k in range(depth + 1)]))
        self.assertEqual([node_numbers(*pair) for pair in ((0, 3), (0, 5), (1, 1), (1, 2))],
                         [(1,), (1, 10, 15), (1, 1), (1, 2, 2)])

    def test_pairs(self):
        for call in (all_joined, node_numbers, closed_euler, lambda g, n: joined_form(g, n, 0)):
            for pair in FURTHER:
                self.refuses(TooMany, call, *pair, limit=3)
            for many in (1, 2):
                self.refuses(Refused, call, 0, many, reason=("pair",))
            self.refuses(InvalidNumber, call, -1, 0, given=-1)
            self.refuses(InvalidNumber, call, 0, 9, given=9)
            for pair in SMALL:
                self.assertIsNone(raised(call, *pair))


class Counts(unittest.TestCase, Refusing):
    def some_rims(self, many, source):
        """Lengths from 0 on, with sums that are even and odd."""
        for _ in range(6):
            yield tuple([source.randint(0, 6) for _ in range(many)])
        yield (0,) * many
        yield (1,) * many
        yield (2,) * many
        yield tuple([10 ** 59 + k for k in range(many)])

    def test_terms(self):
        source = random.Random(163)
        for handles, many in SMALL:
            for rims in self.some_rims(many, source):
                told = []
                for joined in all_joined(handles, many):
                    term = Fraction(1, joined.rearrangements)
                    for (g, names), points in zip(joined.kinds, joined.points):
                        term *= Fraction(*extended_count(g, tuple([rims[name] for name in names]) + (0,) * points))
                    told.append(fraction_pair(term))
                self.assertEqual(joined_terms(handles, rims), tuple(told))
                whole = sum([Fraction(*pair) for pair in told])
                self.assertEqual(joined_count(handles, rims), fraction_pair(whole))

    def test_odd_sums(self):
        # The points have the length 0, so some piece has an odd sum if the whole sum is odd.
        for handles, rims in ((0, (1, 2, 2)), (0, (1, 1, 1, 2)), (1, (3,)), (1, (2, 3)), (0, (0, 0, 0, 0, 0, 1))):
            self.assertEqual(set(joined_terms(handles, rims)), {(0, 1)})
            self.assertEqual(joined_count(handles, rims), (0, 1))

    def test_not_joined(self):
        # The first term with one piece alone is the count itself.
        for handles, rims in ((0, (1, 2, 3, 4)), (1, (4, 6)), (1, (3, 3, 4))):
            single = [k for k, joined in enumerate(all_joined(handles, len(rims))) if len(joined.nodes) == 0]
            self.assertEqual([joined_terms(handles, rims)[k] for k in single], [count(handles, rims)])

    def test_forms(self):
        # There are as many lengths as the form has terms, so that no other formula has these values.
        for handles, many in SMALL:
            depth = 3 * handles - 3 + many
            for odd in range(0, many + 1, 2):
                form = joined_form(handles, many, odd)
                self.assertIs(type(form), Formula)
                self.assertEqual((form.letters, form.degree), (many, depth))
                self.assertEqual(form.part(depth), form_top(handles, many))
                self.assertEqual(list(form.terms), sorted(form.terms))
                for row in exponents(many, depth)[::1 if many < 5 else 7]:
                    rims = tuple([2 * k + 1 for k in row[:odd]] + [2 * k for k in row[odd:]])
                    self.assertEqual(fraction_pair(value(form, rims)), joined_count(handles, rims))

    def test_rims(self):
        for call in (joined_terms, joined_count):
            for wrong in ((), (-1, 1, 2), (0,) * 9, [1, 1, 2], (True, 1, 2), (LONG, 1, 1), ((1, 1), 1, 2), None, 3, "111"):
                self.refuses(InvalidRims, call, 0, wrong)
                self.refuses(InvalidNumber, call, -1, wrong, given=-1)
            self.refuses(Refused, call, 0, (1, 1), reason=("pair",))
            for handles, many in FURTHER:
                self.refuses(TooMany, call, handles, (0,) * many, limit=3)

    def test_odd(self):
        for handles, many in SMALL + FURTHER + [(0, 1), (0, 2)]:
            for wrong in (-2, -1, 1, 3, many + 2 - many % 2, True, None, "0", (0, 1), LONG):
                self.refuses(InvalidNumber, joined_form, handles, many, wrong, given=wrong)
        self.refuses(InvalidNumber, joined_form, 0, 0, 1, given=0)
        self.refuses(InvalidNumber, joined_form, -1, 0, 1, given=-1)
        for handles, many in SMALL:
            self.assertIsNone(raised(joined_form, handles, many, many - many % 2))


class Euler(unittest.TestCase):
    def test_numbers(self):
        for handles, many in SMALL:
            told = Fraction(0)
            for joined in all_joined(handles, many):
                term = Fraction(1, joined.rearrangements)
                for (g, rims), points in zip(joined.kinds, joined.points):
                    term *= Fraction(*euler_number(g, len(rims) + points))
                told += term
            self.assertEqual(closed_euler(handles, many), fraction_pair(told))
            self.assertEqual(closed_euler(handles, many), joined_count(handles, (0,) * many))
            self.assertEqual(closed_euler(handles, many), joined_form(handles, many, 0).at((0,) * many))
            if handles == 0:
                self.assertEqual(closed_euler(handles, many)[1], 1)
        self.assertEqual([closed_euler(0, many) for many in (3, 4, 5, 6)], [(1, 1), (2, 1), (7, 1), (34, 1)])

    def test_objects_stay(self):
        joined = Pieces(LOOP.kinds, LOOP.nodes)
        joined.least(), joined.drawn(0), joined.rearrangements, are_alike_pieces(joined, CROSS)
        self.assertEqual((joined.kinds, joined.nodes), (LOOP.kinds, LOOP.nodes))
        self.assertTrue(short(joined).startswith("Pieces("))
