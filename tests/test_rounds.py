"""[18.1] to [18.8]: closed rows, trees, crossings and tight lots."""

import itertools
import random
import unittest
from fractions import Fraction

from bandrims.bands.codes import shuffled
from bandrims.bands.webs import Web
from bandrims.crossing.rounds import (
    crossing_number, crossing_table, is_bridge, is_closed, is_tight, is_tree, mixed_table, rim_row, rim_weights, round_of,
    tight_number, tree_rounds, tree_ties)
from bandrims.errors import InvalidNumber, InvalidOperation, InvalidWeb
from bandrims.lots.lists import full_webs
from tests.kinds import CROSS, LONG, RINGS, THETA, Refusing, is_whole, kinds, raised, row_of, short
from tests.test_changes import LISTED
from tests.test_codes import mixed
from tests.test_webs import row_of_ties, some_webs

ROWS = (rim_weights, lambda web, row: crossing_number(web, row, row))


def webs():
    """Webs of all sorts: of one place, of one tie, with bridges, with many ties, with and without handles."""
    source = random.Random(181)
    found = [THETA, CROSS, RINGS, Web((0, 1), (1, 0), (0, 0)), Web((1, 0), (1, 0), (0, 1)), Web.bundle(1), Web.bundle(2),
             Web.bundle(5), Web.bundle(8), Web.crossed(2), Web.crossed(12), Web(*row_of_ties(1)), Web(*row_of_ties(4)),
             Web(*row_of_ties(24))]
    found += [mixed(web, source) for pair in LISTED for web in full_webs(*pair)[::17]]
    return found + some_webs()


def small_webs(most=6):
    """Those of them with few ties."""
    return [web for web in webs() if len(web) <= most]


def walked_at(web, row, end):
    """With what a row is walked at an end."""
    number = row[web.tie_of(end)]
    return number if end in web.heads else -number


def is_closed_by_words(web, row):
    """Whether a tuple of as many integers as ties is closed."""
    return all([sum([walked_at(web, row, end) for end in place]) == 0 for place in web.places])


def parts_by_words(web, lot):
    """How many lots of places hang together by the ties of a lot."""
    places = [set(place) for place in web.places]
    for head in lot:
        one = [place for place in places if head in place][0]
        other = [place for place in places if web.mate[head] in place][0]
        if one is not other:
            places = [place for place in places if place is not one and place is not other] + [one | other]
    return len(places)


def lots(web):
    """All lots of ties."""
    return [lot for many in range(len(web) + 1) for lot in itertools.combinations(web.heads, many)]


def trees(web):
    """All trees."""
    return [lot for lot in itertools.combinations(web.heads, len(web.places) - 1) if parts_by_words(web, lot) == 1]


def some_trees(web):
    """The tree of the package and a few others."""
    found = [tree_ties(web)]
    if len(web) <= 8:
        found += trees(web)[::5]
    return found


def rims_by_words(web, lot):
    """How many rims are left if all other ties are left out."""
    kept = [end for end in range(len(web.mate)) if min(end, web.mate[end]) in lot]
    after = {}
    bare = 0
    for place in web.places:
        stay = [end for end in place if end in kept]
        bare += not stay
        for k, end in enumerate(stay):
            after[end] = stay[(k + 1) % len(stay)]
    met = set()
    for end in kept:
        if end not in met:
            bare += 1
            while end not in met:
                met.add(end)
                end = after[web.mate[end]]
    return bare


def crossing_by_words(web, x, y, source):
    """The crossing number of [18.4], the rounds of places beginning anywhere."""
    found = 0
    for place in web.places:
        at = source.randrange(len(place))
        place = place[at:] + place[:at]
        for i, j in itertools.combinations(range(len(place)), 2):
            xi, xj = walked_at(web, x, place[i]), walked_at(web, x, place[j])
            yi, yj = walked_at(web, y, place[i]), walked_at(web, y, place[j])
            found += xi * yj - xj * yi
    assert found % 2 == 0
    return found // 2


def determinant_by_words(rows):
    """The determinant, by fractions."""
    left = [[Fraction(number) for number in row] for row in rows]
    found = Fraction(1)
    while left:
        fit = [k for k, row in enumerate(left) if row[0]]
        if not fit:
            return 0
        found *= (-1) ** fit[0] * left[fit[0]][0]
        lead = left.pop(fit[0])
        left = [[number - row[0] / lead[0] * other for number, other in zip(row, lead)][1:] for row in left]
    return found


def rank_by_words(rows):
    """The rank, by fractions."""
    left = [[Fraction(number) for number in row] for row in rows]
    found = 0
    for column in range(len(rows)):
        fit = [row for row in left if row[column]]
        if fit:
            found += 1
            lead = fit[0]
            left = [[number - row[column] / lead[column] * other for number, other in zip(row, lead)]
                    for row in left if row is not lead]
    return found


def sum_of(rows, factors, many):
    """The sum of integer multiples of rows."""
    return tuple([sum([factor * row[k] for row, factor in zip(rows, factors)]) for k in range(many)])


class Rows(unittest.TestCase, Refusing):
    def test_closed(self):
        source = random.Random(182)
        rights = 0
        for web in webs():
            rounds = tree_rounds(web, tree_ties(web))
            for _ in range(4):
                row = sum_of(rounds, [source.randint(-3, 3) for _ in rounds], len(web))
                self.assertIs(is_closed(web, row), True)
                k = source.randrange(len(web))
                other = row[:k] + (row[k] + source.choice((-1, 1)),) + row[k + 1:]
                self.assertIs(is_closed(web, other), is_closed_by_words(web, other))
                rights += is_closed(web, other)
            self.assertIs(is_closed(web, (0,) * len(web)), True)
            self.assertIs(is_closed(web, (0,) * (len(web) + 1)), False)
            self.assertIs(is_closed(web, [0] * len(web)), False)
        self.assertGreater(rights, 5)

    def test_all_small_rows(self):
        for web in small_webs(4):
            for row in itertools.product((-1, 0, 1), repeat=len(web)):
                self.assertIs(is_closed(web, row), is_closed_by_words(web, row))

    def test_integers_of_any_size(self):
        for number in (LONG, 10 ** 99, -10 ** 99):
            self.assertIs(is_closed(THETA, (number, -number, 0)), True)
            self.assertIs(is_closed(THETA, (number, 1 - number, 0)), False)
            self.assertEqual(crossing_number(CROSS, (number, 0), (0, number)), number ** 2)
            self.assertEqual(rim_weights(THETA, (number, -number, 0)), (0, -number, 0))
        self.assertIs(is_closed(THETA, (True, -1, 0)), False)
        self.assertIs(is_closed(THETA, (1, -1, False)), False)
        self.assertIs(is_closed(THETA, (1, -1, (0, 1))), False)

    def test_kinds(self):
        self.judges_kinds(lambda value: is_closed(THETA, value), lambda value: row_of(3, is_whole)(value) and sum(value) == 0)
        for value in kinds():
            if not isinstance(value, Web):
                self.refuses(InvalidWeb, is_closed, value, (1, -1, 0))

    def test_rows_of_rims(self):
        for web in webs():
            rows = [rim_row(web, name) for name in range(len(web.rims))]
            for name, row in enumerate(rows):
                told = [(web.names[head] == name) - (web.names[web.mate[head]] == name) for head in web.heads]
                self.assertEqual(row, tuple(told))
                self.assertTrue(is_closed_by_words(web, row))
            self.assertEqual(sum_of(rows, [1] * len(rows), len(web)), (0,) * len(web))
            for wrong in (-1, len(rows), True, None, "0", (0, 1), LONG):
                self.refuses(InvalidNumber, rim_row, web, wrong, given=wrong)

    def test_weights(self):
        source = random.Random(183)
        without = 0
        for web in webs():
            rows = [rim_row(web, name) for name in range(len(web.rims))]
            for most in (3, 10 ** 70):
                weights = (0,) + tuple([source.randint(-most, most) for _ in rows[1:]])
                self.assertEqual(rim_weights(web, sum_of(rows, weights, len(web))), weights)
            for row in tree_rounds(web, tree_ties(web)):
                found = rim_weights(web, row)
                # A closed row is such a sum exactly if it crosses no closed row.
                crossed = any([crossing_number(web, row, other) for other in tree_rounds(web, tree_ties(web))])
                self.assertEqual(found is None, crossed)
                if found is not None:
                    self.assertEqual((found[0], sum_of(rows, found, len(web))), (0, row))
                without += found is None
        self.assertGreater(without, 10)

    def test_wrong_rows(self):
        for call in ROWS:
            for wrong in ((1, 0, 0), (1, -1), (1, -1, 0, 0), [1, -1, 0], None, 0, (True, -1, 0), (1, -1, None), ()):
                self.refuses(InvalidOperation, call, THETA, wrong)
                self.refuses(InvalidWeb, call, None, wrong)
        self.refuses(InvalidOperation, crossing_number, THETA, (1, -1, 0), (1, 0, 0))
        self.refuses(InvalidOperation, crossing_number, THETA, (1, 0, 0), (1, -1, 0))


class Trees(unittest.TestCase, Refusing):
    def test_judging(self):
        for web in small_webs():
            told = trees(web)
            for lot in lots(web):
                self.assertIs(is_tree(web, lot), lot in told)
                if len(lot) > 1:
                    self.assertIs(is_tree(web, lot[::-1]), False)
                self.assertIs(is_tree(web, list(lot)), False)
            self.assertIn(tree_ties(web), told)

    def test_kinds(self):
        self.judges_kinds(lambda value: is_tree(THETA, value), lambda value: value == (0,) and type(value[0]) is int)
        self.judges_kinds(lambda value: is_tree(CROSS, value), lambda value: value == ())
        self.judges_kinds(lambda value: is_tight(CROSS, value), lambda value: type(value) is tuple and (
            value == () or value == (0, 2) and type(value[0]) is int))
        for wrong in ((1,), (0, 2), (), (False,), (0, 0), ("0",), (LONG,), (-6,), (6,)):
            self.assertIs(is_tree(THETA, wrong), False)

    def test_any_tree(self):
        for web in webs():
            tree = tree_ties(web)
            self.assertIs(type(tree), tuple)
            self.assertIs(is_tree(web, tree), True)
            self.assertEqual((list(tree), len(tree)), (sorted(set(tree)), len(web.places) - 1))
            self.assertEqual(parts_by_words(web, tree), 1)

    def test_rounds(self):
        for web in webs():
            for tree in some_trees(web):
                beyond = [head for head in web.heads if head not in tree]
                self.assertEqual(len(beyond), 2 * web.handles + len(web.rims) - 1)
                for head in beyond:
                    for end in (head, web.mate[head]):
                        row = round_of(web, tree, end)
                        self.assertTrue(is_closed_by_words(web, row))
                        told = [walked_at(web, row, end)] + [row[web.tie_of(other)] for other in beyond if other != head]
                        self.assertEqual(told, [1] + [0] * (len(beyond) - 1))
                found = tree_rounds(web, tree)
                self.assertIs(type(found), tuple)
                self.assertEqual(found, tuple([round_of(web, tree, head) for head in beyond]))

    def test_each_closed_row_is_a_sum(self):
        for web in small_webs(4):
            for tree in trees(web):
                rounds = tree_rounds(web, tree)
                beyond = [web.tie_of(head) for head in web.heads if head not in tree]
                for row in itertools.product((-1, 0, 1, 2), repeat=len(web)):
                    if is_closed_by_words(web, row):
                        self.assertEqual(sum_of(rounds, [row[k] for k in beyond], len(web)), row)

    def test_errors(self):
        for call in (tree_rounds, crossing_table, mixed_table, lambda web, tree: round_of(web, tree, 2)):
            for wrong in ((), (1,), (0, 2), [0], None, 0, (False,), ((0,),), (6,), (LONG,), "0"):
                self.refuses(InvalidOperation, call, THETA, wrong)
                self.refuses(InvalidWeb, call, 1, wrong)
        for wrong in (-1, 6, True, None, "0", (0, 1), LONG):
            self.refuses(InvalidNumber, round_of, THETA, (0,), wrong, given=wrong)
            self.refuses(InvalidOperation, round_of, THETA, (1,), wrong)
        for end in (0, 1):
            self.refuses(InvalidOperation, round_of, THETA, (0,), end)
            self.assertIsNone(raised(round_of, THETA, (2,), end))


class Crossings(unittest.TestCase):
    def some_rows(self, web, source):
        """Closed rows, sums of rounds."""
        rounds = tree_rounds(web, tree_ties(web))
        return [sum_of(rounds, [source.randint(-3, 3) for _ in rounds], len(web)) for _ in range(3)]

    def test_numbers(self):
        source = random.Random(184)
        for web in webs():
            x, y, z = self.some_rows(web, source)
            told = crossing_number(web, x, y)
            self.assertEqual(told, crossing_by_words(web, x, y, source))
            self.assertEqual(crossing_number(web, y, x), -told)
            self.assertEqual(crossing_number(web, x, x), 0)
            both = tuple([2 * one - 3 * other for one, other in zip(y, z)])
            self.assertEqual(crossing_number(web, x, both), 2 * told - 3 * crossing_number(web, x, z))
            for name in range(len(web.rims)):
                self.assertEqual(crossing_number(web, rim_row(web, name), x), 0)

    def test_other_ends(self):
        # Rounds of places begin with the least end: with other ends they begin elsewhere.
        source = random.Random(185)
        for web in webs():
            x, y, _ = self.some_rows(web, source)
            order = tuple(source.sample(range(len(web.mate)), len(web.mate)))
            other = shuffled(web, order)
            led = [[0] * len(web), [0] * len(web)]
            for end in range(len(web.mate)):
                if order[end] in other.heads:
                    for row, found in zip((x, y), led):
                        found[other.tie_of(order[end])] = walked_at(web, row, end)
            self.assertEqual(crossing_number(other, *map(tuple, led)), crossing_number(web, x, y))

    def test_tables(self):
        source = random.Random(186)
        for web in webs():
            for tree in some_trees(web):
                rounds = tree_rounds(web, tree)
                table = crossing_table(web, tree)
                self.assertEqual(table, tuple([tuple([crossing_number(web, one, other) for other in rounds])
                                               for one in rounds]))
                for k, one in enumerate(rounds[:5]):
                    told = tuple([crossing_by_words(web, one, other, source) for other in rounds[:5]])
                    self.assertEqual(table[k][:5], told)
                self.assertEqual(rank_by_words(table), 2 * web.handles)
                if len(web.rims) == 1:
                    self.assertEqual(determinant_by_words(table), 1)

    def test_mixed_tables(self):
        for web in webs():
            for tree in some_trees(web):
                rounds = {head: round_of(web, tree, head) for head in web.heads if head not in tree}
                table = mixed_table(web, tree)
                self.assertEqual({type(row) for row in table} | {type(table)}, {tuple})
                for k, one in enumerate(web.heads):
                    for j, other in enumerate(web.heads):
                        told = 0
                        if one in rounds and other in rounds:
                            told = crossing_number(web, rounds[one], rounds[other])
                        elif one in rounds:
                            told = rounds[one][j]
                        elif other in rounds:
                            told = -rounds[other][k]
                        self.assertEqual(table[k][j], told)


class Tight(unittest.TestCase, Refusing):
    def test_lots(self):
        for web in small_webs():
            told = [lot for lot in lots(web) if parts_by_words(web, lot) == 1 and rims_by_words(web, lot) == 1]
            for lot in lots(web):
                self.assertIs(is_tight(web, lot), lot in told)
            for tree in trees(web):
                self.assertIn(tree, told)
            self.assertEqual(tight_number(web), len(told))

    def test_parts_of_mixed_tables(self):
        for web in small_webs(5):
            for tree in trees(web)[::3]:
                table = mixed_table(web, tree)
                for lot in lots(web):
                    ties = [k for k, head in enumerate(web.heads) if (head in lot) != (head in tree)]
                    told = determinant_by_words([[table[k][j] for j in ties] for k in ties])
                    self.assertEqual(told, is_tight(web, lot))

    def test_numbers(self):
        for web in webs():
            for tree in some_trees(web)[-1:]:
                table = mixed_table(web, tree)
                rows = [[number + (k == j) for j, number in enumerate(row)] for k, row in enumerate(table)]
                found = tight_number(web)
                self.assertEqual(found, determinant_by_words(rows))
                self.assertIs(type(found), int)
            if web.handles == 0 and len(web) <= 8:
                # Without handles the trees alone are tight.
                self.assertEqual(tight_number(web), len(trees(web)))

    def test_of_handles(self):
        # Each handle that crosses alone is there with both of its ties or with none.
        for handles in range(1, 13):
            self.assertEqual(tight_number(Web.crossed(handles)), 2 ** handles)
        for ties in range(1, 9):
            self.assertEqual(tight_number(Web.bundle(ties)), ties)

    def test_edges(self):
        for web in (THETA, CROSS, RINGS, Web.crossed(2), Web.bundle(1)):
            self.assertIs(is_tight(web, ()), len(web.places) == 1)
            self.assertIs(is_tight(web, web.heads), len(web.rims) == 1)
        for wrong in ([0], (1,), (0, 0), (2, 0), (True,), (False,), (0, 1), None, "0", 0, (LONG,), (-1,)):
            self.assertIs(is_tight(THETA, wrong), False)
        self.assertIs(is_tight(THETA, (0,)), True)
        # A tight lot can have more ties than a tree.
        self.assertEqual((is_tight(CROSS, (0, 2)), is_tree(CROSS, (0, 2))), (True, False))


class Bridges(unittest.TestCase, Refusing):
    def test_bridges(self):
        several = 0
        for web in webs():
            rounds = tree_rounds(web, tree_ties(web))
            for end in range(len(web.mate)):
                others = [head for head in web.heads if head not in (end, web.mate[end])]
                told = parts_by_words(web, others) > 1
                self.assertIs(is_bridge(web, end), told)
                self.assertEqual(told, all([row[web.tie_of(end)] == 0 for row in rounds]))
                one, other = web.sides_of(end)
                if told:
                    self.assertEqual(one, other)
                    several += 1
                elif web.handles == 0:
                    self.assertNotEqual(one, other)
        self.assertGreater(several, 20)

    def test_not_true(self):
        self.assertEqual((CROSS.sides_of(0), is_bridge(CROSS, 0)), ((0, 0), False))

    def test_errors(self):
        for wrong in (-1, 6, True, None, "0", (0, 1), LONG):
            self.refuses(InvalidNumber, is_bridge, THETA, wrong, given=wrong)
            self.refuses(InvalidWeb, is_bridge, THETA.mate, wrong)
        self.assertIs(is_bridge(RINGS, 2), True)
        self.assertTrue(short(THETA).startswith("Web("))
