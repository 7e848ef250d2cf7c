"""[0.9] to [0.13] and [3.1] to [3.4]: webs, their places and rims, and lengths."""

import itertools
import random
import unittest
from fractions import Fraction

from bandrims.bands import webs
from bandrims.bands.webs import (
    Web, are_lengths, are_whole_lengths, is_web_data, rim_lengths, tie_weights)
from bandrims.errors import InvalidLengths, InvalidNumber, InvalidWeb
from tests.kinds import (
    CROSS, LONG, RINGS, Refusing, THETA, between, is_either, is_short, kinds, row_of, short)


def walk(step, start):
    """The list of what step leads to from the start on, up to the start."""
    found = [start]
    while step(found[-1]) != start:
        found.append(step(found[-1]))
    return found


def lots(many, step):
    """The lists of ends that a step leads to one another, by their least ends."""
    return [walk(step, end) for end in range(many) if min(walk(step, end)) == end]


def together(after, mate):
    """Whether all ends hang together, by making lots one."""
    lot = list(range(len(after)))
    for end in range(len(after)):
        for near in (after[end], mate[end]):
            low, high = sorted((lot[end], lot[near]))
            lot = [low if k == high else k for k in lot]
    return len(set(lot)) == 1


def tells_web(after, mate, names):
    """Whether three tuples of integers tell a web, by the words of the document."""
    ends = range(len(after))
    if not (len(after) == len(mate) == len(names)) or len(after) % 2 or not 1 <= len(after) // 2 <= 24:
        return False
    if sorted(after) != list(ends) or any([mate[i] not in ends or mate[i] == i for i in ends]):
        return False
    if any([mate[mate[i]] != i for i in ends]) or not together(after, mate):
        return False
    rims = lots(len(after), lambda end: after[mate[end]])
    told = [{names[end] for end in rim} for rim in rims]
    return len(rims) <= 8 and sorted(map(list, told)) == [[k] for k in range(len(rims))]


def some_webs():
    """Webs of all sizes."""
    source = random.Random(11)
    found = [THETA, CROSS, RINGS] + [Web.bundle(k) for k in range(1, 9)] + [Web.crossed(k) for k in range(1, 13)]
    for ties in (1, 2, 3, 4, 6, 9, 15, 24):
        many = 0
        while many < 12:
            after = source.sample(range(2 * ties), 2 * ties)
            ends = source.sample(range(2 * ties), 2 * ties)
            mate = [0] * len(ends)
            for k in range(ties):
                mate[ends[2 * k]], mate[ends[2 * k + 1]] = ends[2 * k + 1], ends[2 * k]
            rims = lots(2 * ties, lambda end: after[mate[end]])
            if not together(after, mate) or len(rims) > 8:
                continue
            order = source.sample(range(len(rims)), len(rims))
            names = [0] * len(ends)
            for k, rim in enumerate(rims):
                for end in rim:
                    names[end] = order[k]
            found.append(Web(tuple(after), tuple(mate), tuple(names)))
            many += 1
    return found


# Nine ties from one place to another one: a web but for its nine rims.
NINE = (tuple([(end + 2) % 18 if end % 2 == 0 else (end - 2) % 18 for end in range(18)]),
        tuple([end + 1 - 2 * (end % 2) for end in range(18)]),
        tuple([(end + 1) // 2 % 9 for end in range(18)]))


def row_of_ties(ties):
    """A row of ties, one behind the other, that makes one rim."""
    after = [0] * (2 * ties)
    for end in range(1, 2 * ties - 1, 2):
        after[end], after[end + 1] = end + 1, end
    after[0], after[-1] = 0, 2 * ties - 1
    mate = [end + 1 - 2 * (end % 2) for end in range(2 * ties)]
    return (tuple(after), tuple(mate), (0,) * (2 * ties))


class Telling(unittest.TestCase, Refusing):
    def test_constants(self):
        self.assertEqual((webs.MAX_TIES, webs.MAX_RIMS), (24, 8))

    def test_all_small_webs(self):
        for many in (1, 2, 3, 4):
            names = list(itertools.product(range(-1, 4), repeat=many)) if many < 4 else [
                (0, 0, 0, 0), (0, 0, 1, 1), (1, 0, 1, 0), (0, 1, 1, 2), (0, 1, 1, 0), (1, 1, 0, 1), (0, 1, 2, 0), (1, 2, 0, 1)]
            right = 0
            for three in itertools.product(itertools.product(range(many), repeat=many),
                                           itertools.permutations(range(many)), names):
                if sorted(three[0]) != list(range(many)) and three[0][0] != 1:
                    continue
                told = tells_web(*three)
                right += told
                self.assertIs(is_web_data(three), told, three)
            self.assertEqual(right > 0, many % 2 == 0)

    def test_all_mates_of_two_ties(self):
        for after in itertools.permutations(range(4)):
            for mate in itertools.product(range(-1, 5), repeat=4):
                for names in ((0, 0, 0, 0), (0, 1, 1, 0), (0, 1, 1, 2)):
                    self.assertIs(is_web_data((after, mate, names)), tells_web(after, mate, names))

    def test_one_number_off(self):
        source = random.Random(2)
        for web in some_webs():
            three = [list(web.after), list(web.mate), list(web.names)]
            for row, number in itertools.product(range(3), (-1, 0, 1, 2, 3, 47, 48)):
                spot = source.randrange(len(web.after))
                other = [list(part) for part in three]
                other[row][spot] = number
                other = tuple([tuple(part) for part in other])
                self.assertIs(is_web_data(other), tells_web(*other), other)

    def test_bounds(self):
        for ties in (1, 2, 23, 24):
            self.assertTrue(is_web_data(row_of_ties(ties)))
            self.assertEqual(len(Web(*row_of_ties(ties))), ties)
        self.assertFalse(is_web_data(row_of_ties(25)))
        self.refuses(InvalidWeb, Web, *row_of_ties(25))
        self.assertFalse(is_web_data(((), (), ())))
        self.refuses(InvalidWeb, Web, (), (), ())
        self.refuses(InvalidWeb, Web, (0,), (0,), (0,))
        self.assertEqual(len(Web.bundle(8).rims), 8)
        self.assertFalse(is_web_data(NINE))
        self.refuses(InvalidWeb, Web, *NINE)
        eight = tuple([(end + 2) % 16 if end % 2 == 0 else (end - 2) % 16 for end in range(16)])
        self.assertEqual(eight, Web.bundle(8).after)

    def test_wrong_kinds(self):
        three = (THETA.after, THETA.mate, THETA.names)
        self.judges_kinds(is_web_data, lambda value: repr(value) == "((0, 1), (1, 0), (0, 0))")
        for place in range(3):
            def put(value):
                return three[:place] + (value,) + three[place + 1:]
            self.refuses_kinds(InvalidWeb, lambda value: Web(*put(value)), lambda value: False)
            self.judges_kinds(lambda value: is_web_data(put(value)), lambda value: False)
            self.refuses(InvalidWeb, Web, *put(list(three[place])))
            for spot in range(6):
                for value in (True, False, None, "0", (0,), [0], {}, LONG, -LONG, THETA):
                    row = three[place][:spot] + (value,) + three[place][spot + 1:]
                    self.refuses(InvalidWeb, Web, *put(row))
                    self.assertIs(is_web_data(put(row)), False)
        for value in (list(three), three[:2], three + ((),), {0: three}, THETA, None):
            self.assertIs(is_web_data(value), False)

    def test_true_is_not_1(self):
        self.assertIs(is_web_data(((0, 1), (1, 0), (0, 0))), True)
        self.assertIs(is_web_data(((0, True), (1, 0), (0, 0))), False)
        self.assertIs(is_web_data(((0, 1), (1, False), (0, 0))), False)
        self.assertIs(is_web_data(((0, 1), (1, 0), (0, False))), False)
        self.refuses(InvalidWeb, Web, (0, 1), (True, 0), (0, 0))

    def test_what_must_hang_together(self):
        apart = ((0, 1, 2, 3), (1, 0, 3, 2), (0, 0, 1, 1))
        self.assertIs(is_web_data(apart), False)
        self.assertIs(is_web_data(((2, 1, 0, 3), (1, 0, 3, 2), (0, 0, 0, 0))), True)
        self.refuses(InvalidWeb, Web, *apart)

    def test_names(self):
        after, mate = THETA.after, THETA.mate
        rims = lots(6, lambda end: after[mate[end]])
        for names in itertools.product(range(-1, 4), repeat=3):
            row = [0] * 6
            for name, rim in zip(names, rims):
                for end in rim:
                    row[end] = name
            self.assertIs(is_web_data((after, mate, tuple(row))), sorted(names) == [0, 1, 2])
        self.assertIs(is_web_data((after, mate, (0, 1, 2, 1, 2, 0))), False)
        self.assertIs(is_web_data((after, mate, (0, 0, 0, 0, 0, 0))), False)


class Shapes(unittest.TestCase, Refusing):
    def test_rounds(self):
        for web in some_webs():
            ends = range(2 * len(web))
            step = {end: web.after[web.mate[end]] for end in ends}
            self.assertEqual(web.places, tuple(map(tuple, lots(len(ends), web.after.__getitem__))))
            for name, rim in enumerate(web.rims):
                self.assertEqual(rim, tuple(walk(step.get, min(rim))))
                self.assertEqual({web.names[end] for end in rim}, {name})
            self.assertEqual(sorted(sum(web.rims, ())), list(ends))
            self.assertEqual(sorted(sum(web.places, ())), list(ends))
            for end in ends:
                self.assertEqual(web.place_round(end), tuple(walk(web.after.__getitem__, end)))
                self.assertEqual(web.rim_round(end), tuple(walk(step.get, end)))

    def test_sizes(self):
        for web in some_webs():
            self.assertEqual(web.degrees, tuple([len(place) for place in web.places]))
            self.assertEqual(sum(web.degrees), 2 * web.size)
            self.assertEqual((web.size, len(web)), (len(web.mate) // 2,) * 2)
            self.assertEqual(len(web.places), 2 - 2 * web.handles - len(web.rims) + web.size)
            self.assertGreaterEqual(web.handles, 0)
            self.assertIs(web.is_full, min(web.degrees) >= 3)
            self.assertIs(web.is_threes, set(web.degrees) == {3})
            if web.is_full:
                low, high = 2 * web.handles + len(web.rims) - 1, 6 * web.handles - 6 + 3 * len(web.rims)
                self.assertTrue(low <= web.size <= high)
                self.assertEqual(web.size == high, web.is_threes)
                self.assertEqual(web.size == low, len(web.places) == 1)

    def test_properties_are_plain_values(self):
        for web in (THETA, CROSS, RINGS):
            for name in ("after", "mate", "names", "heads", "places", "rims", "degrees"):
                self.assertIs(type(getattr(web, name)), tuple)
            for name in ("size", "handles"):
                self.assertIs(type(getattr(web, name)), int)
            for name in ("is_full", "is_threes"):
                self.assertIs(type(getattr(web, name)), bool)

    def test_full_webs(self):
        told = [(web.is_full, web.is_threes) for web in (THETA, CROSS, RINGS, Web.bundle(2), Web.bundle(4), Web.bundle(1))]
        self.assertEqual(told, [(True, True), (True, False), (True, True), (False, False), (True, False), (False, False)])
        mixed = Web((1, 2, 0, 3), (3, 2, 1, 0), (0, 0, 1, 0))
        self.assertEqual((mixed.degrees, mixed.is_full, mixed.is_threes), ((3, 1), False, False))

    def test_ties(self):
        for web in some_webs():
            told = sorted([min(end, mate) for end, mate in enumerate(web.mate)])[::2]
            self.assertEqual(web.heads, tuple(told))
            for end in range(2 * len(web)):
                self.assertEqual(web.heads[web.tie_of(end)], min(end, web.mate[end]))
                self.assertEqual(web.tie_of(end), web.tie_of(web.mate[end]))
                self.assertEqual(web.sides_of(end), (web.names[end], web.names[web.mate[end]]))
        crossing = Web((1, 2, 3, 0), (2, 3, 0, 1), (0, 0, 0, 0))
        self.assertEqual((crossing.heads, [crossing.tie_of(end) for end in range(4)]), ((0, 1), [0, 1, 0, 1]))

    def test_ends(self):
        for web in (THETA, CROSS, Web.bundle(1), Web.crossed(12)):
            for call in (web.place_round, web.rim_round, web.tie_of, web.sides_of):
                self.refuses_kinds(InvalidNumber, call, between(0, 2 * len(web) - 1), "given")
                self.refuses(InvalidNumber, call, 2 * len(web), given=2 * len(web))
                self.refuses(InvalidNumber, call, -1, given=-1)
                self.refuses(InvalidNumber, call, True, given=True)

    def test_bundles(self):
        for ties in range(1, 9):
            web = Web.bundle(ties)
            self.assertEqual(web.place_round(0), tuple(range(0, 2 * ties, 2)))
            self.assertEqual(web.place_round(2 * ties - 1), tuple(range(2 * ties - 1, 0, -2)))
            self.assertEqual(web.mate, tuple([end ^ 1 for end in range(2 * ties)]))
            self.assertEqual([web.names[2 * i] for i in range(ties)], list(range(ties)))
            self.assertEqual((len(web), len(web.places), len(web.rims), web.handles), (ties, 2, ties, 0))
        self.refuses_kinds(InvalidNumber, Web.bundle, between(1, 8), "given")

    def test_crossed(self):
        for handles in range(1, 13):
            web = Web.crossed(handles)
            told = [4 * k + step for k in range(handles) for step in (0, 2, 1, 3)]
            self.assertEqual(web.place_round(0), tuple(told))
            self.assertEqual(web.mate, tuple([end ^ 1 for end in range(4 * handles)]))
            self.assertEqual((len(web), len(web.places), len(web.rims), web.handles), (2 * handles, 1, 1, handles))
        self.refuses_kinds(InvalidNumber, Web.crossed, between(1, 12), "given")

    def test_texts(self):
        self.assertEqual(str(THETA), "web of 3 ties, 2 places, 3 rims, 0 handles")
        self.assertEqual(str(Web.bundle(1)), "web of 1 ties, 2 places, 1 rims, 0 handles")
        self.assertEqual(str(Web.crossed(12)), "web of 24 ties, 1 places, 1 rims, 12 handles")

    def test_equality(self):
        self.assertTrue(THETA == Web(THETA.after, THETA.mate, THETA.names))
        self.assertFalse(THETA != Web(THETA.after, THETA.mate, THETA.names))
        for value in kinds():
            same = isinstance(value, Web) and value.names == THETA.names
            with self.subTest(value=short(value)):
                self.assertIs(THETA == value, same)
                self.assertIs(THETA != value, not same)
        renamed = Web(THETA.after, THETA.mate, (1, 0, 0, 2, 2, 1))
        self.assertFalse(THETA == renamed)
        # Webs that differ in one of the three tuples alone.
        round_place = (1, 2, 3, 4, 5, 6, 7, 0)
        opposite = Web(round_place, (4, 5, 6, 7, 0, 1, 2, 3), (0,) * 8)
        self.assertFalse(opposite == Web(round_place, (2, 3, 0, 1, 6, 7, 4, 5), (0,) * 8))
        self.assertFalse(CROSS == Web((3, 2, 0, 1), (1, 0, 3, 2), (0, 0, 0, 0)))

    def test_it_never_changes(self):
        for name in ("after", "mate", "names", "size", "heads", "places", "rims", "degrees", "handles", "is_full",
                     "is_threes"):
            self.assertRaises(AttributeError, setattr, THETA, name, getattr(THETA, name))

    def test_no_iteration(self):
        self.assertRaises(TypeError, iter, THETA)
        self.assertRaises(TypeError, list, CROSS)

    def test_not_true(self):
        self.assertEqual(CROSS.sides_of(0), (0, 0))
        one_place = Web((1, 2, 3, 0), (1, 0, 3, 2), (0, 1, 0, 2))
        self.assertEqual((len(one_place.places), len(one_place.rims)), (1, 3))


class Lengths(unittest.TestCase, Refusing):
    def test_kinds(self):
        def above(value):
            return is_either(value) and (value[0] if type(value) is tuple else value) > 0
        for web in (THETA, CROSS, Web.bundle(1)):
            many = len(web)
            self.judges_kinds(lambda value: are_lengths(web, value), row_of(many, above))
            self.judges_kinds(lambda value: are_whole_lengths(web, value),
                              row_of(many, lambda value: is_short(value) and value > 0))
            self.refuses_kinds(InvalidLengths, lambda value: rim_lengths(web, value), row_of(many, above))
            rest = (1,) * (many - 1)
            self.judges_kinds(lambda value: are_lengths(web, (value,) + rest), above)
            self.judges_kinds(lambda value: are_whole_lengths(web, rest + (value,)),
                              lambda value: is_short(value) and value > 0)
            self.refuses_kinds(InvalidLengths, lambda value: rim_lengths(web, rest + (value,)), above)

    def test_edges(self):
        right = [(1, 1), (LONG - 1, 1), ((1, 2), (7, 3)), ((5, 1), 1), ((LONG, 1), (1, LONG))]
        self.assertEqual([are_lengths(CROSS, value) for value in right], [True] * 5)
        self.assertEqual([are_whole_lengths(CROSS, value) for value in right], [True, True, False, False, False])
        wrong = [(0, 1), (1, -1), (1,), (1, 1, 1), [1, 1], (True, 1), (LONG, 1), ((0, 1), 1), ((-1, 2), 1), ((2, 4), 1), ()]
        for value in wrong:
            self.assertIs(are_lengths(CROSS, value), False)
            self.assertIs(are_whole_lengths(CROSS, value), False)
            self.refuses(InvalidLengths, rim_lengths, CROSS, value)

    def test_web_comes_first(self):
        for call in (are_lengths, are_whole_lengths, rim_lengths, tie_weights):
            self.refuses_kinds(InvalidWeb, lambda value: None if isinstance(value, Web) else call(value, None),
                               lambda value: isinstance(value, Web))
            self.refuses(InvalidWeb, call, (THETA.after, THETA.mate, THETA.names), (1, 1, 1))

    def test_rim_lengths(self):
        source = random.Random(4)
        for web in some_webs():
            lengths = []
            for _ in range(len(web)):
                number = Fraction(source.randint(1, 20), source.randint(1, 6))
                lengths.append((number.numerator, number.denominator))
            told = []
            for name in range(len(web.rims)):
                ends = [end for end in range(2 * len(web)) if web.names[end] == name]
                whole = sum([Fraction(*lengths[web.heads.index(min(end, web.mate[end]))]) for end in ends])
                told.append((whole.numerator, whole.denominator))
            self.assertEqual(rim_lengths(web, tuple(lengths)), tuple(told))
            ones = rim_lengths(web, (1,) * len(web))
            self.assertEqual(ones, tuple([(len(rim), 1) for rim in web.rims]))

    def test_weights(self):
        for web in some_webs():
            rows = [tie_weights(web, name) for name in range(len(web.rims))]
            for name, row in enumerate(rows):
                told = [[web.names[head], web.names[web.mate[head]]].count(name) for head in web.heads]
                self.assertEqual(row, tuple(told))
            self.assertEqual([sum(column) for column in zip(*rows)], [2] * len(web))

    def test_weights_errors(self):
        for web in (THETA, CROSS, Web.bundle(8)):
            self.refuses_kinds(InvalidNumber, lambda value: tie_weights(web, value),
                               between(0, len(web.rims) - 1), "given")
        self.refuses(InvalidNumber, tie_weights, THETA, 3, given=3)
        self.refuses(InvalidNumber, tie_weights, THETA, -1, given=-1)
        self.refuses(InvalidNumber, tie_weights, CROSS, False, given=False)
