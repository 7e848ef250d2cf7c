"""[7.1] to [7.5]: whole lengths of one web for told lengths of its rims."""

import itertools
import random
import types
import unittest
from fractions import Fraction

from bandrims.bands.changes import parted
from bandrims.bands.codes import shuffled, symmetries, symmetry_number
from bandrims.bands.webs import Web, rim_lengths
from bandrims.errors import (
    InvalidLengths, InvalidNumber, InvalidOperation, InvalidRims, InvalidWeb, Refused, TooMany)
from bandrims.lots.lists import full_webs
from bandrims.sides import solutions as module
from bandrims.sides.solutions import (
    a_solution, count_by_lists, is_solution, keeping_number, least_solutions, led_lengths, solution_number, solutions,
    web_count)
from tests.kinds import CROSS, LONG, RINGS, THETA, Refusing, is_short, row_of
from tests.specs import is_row
from tests.test_changes import LISTED
from tests.test_codes import HEXAGON, ends, mixed
from tests.test_lists import BEYOND
from tests.test_webs import row_of_ties, some_webs

TAKING_RIMS = (solution_number, web_count, lambda web, rims: next(solutions(web, rims), None), a_solution, least_solutions,
               lambda web, rims: is_solution(web, rims, ()))


def fraction_pair(number):
    """The pair of a number of Python's own."""
    return (Fraction(number).numerator, Fraction(number).denominator)


def solutions_by_words(web, rims):
    """All solutions, by trying all whole lengths with the right sum."""
    found = []
    for lengths in itertools.product(range(1, max(rims) + 1), repeat=len(web)):
        if 2 * sum(lengths) == sum(rims) and rim_lengths(web, lengths) == tuple([(length, 1) for length in rims]):
            found.append(lengths)
    return found


def led_by_words(web, lengths, move):
    """Lengths, led by a symmetry as [7.2] tells it."""
    found = [None] * len(web)
    for end in ends(web):
        found[web.tie_of(move[end])] = lengths[web.tie_of(end)]
    return tuple(found)


def cases():
    """Webs of few ties with lengths of rims, without and with solutions."""
    source = random.Random(31)
    webs = [THETA, CROSS, RINGS, HEXAGON, Web.bundle(1), Web.bundle(2), Web.bundle(4), Web.crossed(2), Web(*row_of_ties(3))]
    webs += [mixed(web, source) for pair in LISTED for web in full_webs(*pair)[::11] if len(web) <= 5]
    webs += [web for web in some_webs() if len(web) <= 3]
    for web in webs:
        many = len(web.rims)
        for _ in range(4):
            lengths = tuple([source.randint(1, 3) for _ in range(len(web))])
            yield web, tuple([top for top, _ in rim_lengths(web, lengths)])
        for _ in range(3):
            yield web, tuple([source.randint(1, 12 // many + 1) for _ in range(many)])


class Solutions(unittest.TestCase):
    def test_all_solutions(self):
        some = 0
        for web, rims in cases():
            if max(rims) ** len(web) > 20000:
                continue
            told = solutions_by_words(web, rims)
            some += len(told)
            self.assertEqual(list(solutions(web, rims)), told)
            self.assertEqual(solution_number(web, rims), len(told))
            self.assertEqual(web_count(web, rims), fraction_pair(Fraction(len(told), symmetry_number(web))))
            self.assertIn(a_solution(web, rims), told or [None])
            for lengths in told:
                self.assertIs(is_solution(web, rims, lengths), True)
        self.assertGreater(some, 200)

    def test_sums(self):
        for web in (THETA, CROSS, RINGS, HEXAGON, Web.bundle(8), Web.crossed(3)):
            many = len(web.rims)
            for whole in range(many, 31):
                rims = (whole - many + 1,) + (1,) * (many - 1)
                if whole % 2 or whole < 2 * len(web):
                    self.assertEqual((solution_number(web, rims), list(solutions(web, rims))), (0, []))
                    self.assertIsNone(a_solution(web, rims))
                    self.assertEqual(web_count(web, rims), (0, 1))
                    self.assertEqual(least_solutions(web, rims), ())
        told = [solution_number(CROSS, (whole,)) for whole in range(1, 31)]
        self.assertEqual(told, [max(0, whole // 2 - 1) if whole % 2 == 0 else 0 for whole in range(1, 31)])

    def test_many_ties(self):
        for web in [web for web in some_webs() if len(web) >= 15]:
            many = len(web.rims)
            for whole in (29, 30):
                self.assertEqual(solution_number(web, (whole - many + 1,) + (1,) * (many - 1)), 0)
        crossed = Web.crossed(7)
        self.assertEqual(solution_number(crossed, (28,)), 1)
        self.assertEqual(solution_number(crossed, (30,)), 14)
        self.assertEqual(solution_number(Web.crossed(12), (30,)), 0)
        self.assertEqual(solution_number(Web.crossed(4), (30,)), 3432)
        self.assertEqual(len(list(solutions(Web.crossed(4), (30,)))), 3432)
        row = Web(*row_of_ties(15))
        self.assertEqual(list(solutions(row, (30,))), [(1,) * 15])

    def test_one_by_one(self):
        found = solutions(Web.crossed(4), (30,))
        self.assertIsInstance(found, types.GeneratorType)
        self.assertEqual(next(found), (1,) * 7 + (8,))
        self.assertEqual(next(found), (1,) * 6 + (2, 7))
        one, other = solutions(CROSS, (8,)), solutions(CROSS, (8,))
        self.assertEqual([next(one), next(one), next(other), next(one), next(one, None)],
                         [(1, 3), (2, 2), (1, 3), (3, 1), None])

    def test_no_solution_with_a_right_sum(self):
        self.assertEqual(solution_number(THETA, (2, 2, 6)), 0)
        self.assertIsNone(a_solution(THETA, (2, 2, 6)))
        self.assertEqual(web_count(HEXAGON, (8,)), (1, 2))
        self.assertEqual(len(least_solutions(HEXAGON, (8,))), 1)

    def test_alike_webs(self):
        source = random.Random(33)
        for web, rims in list(cases())[::4]:
            self.assertEqual(web_count(mixed(web, source), rims), web_count(web, rims))
            self.assertEqual(solution_number(mixed(web, source), rims), solution_number(web, rims))

    def test_which_are_solutions(self):
        for web, rims in ((THETA, (3, 4, 5)), (CROSS, (8,)), (RINGS, (1, 8, 3)), (HEXAGON, (12,))):
            told = solutions_by_words(web, rims)
            self.assertTrue(told)
            for lengths in itertools.product(range(-1, 6), repeat=len(web)):
                self.assertIs(is_solution(web, rims, lengths), lengths in told)
            for lengths in told:
                for place in range(len(web)):
                    for wrong in (True, None, "1", (lengths[place], 1), [1], LONG, lengths[place] + LONG):
                        other = lengths[:place] + (wrong,) + lengths[place + 1:]
                        self.assertIs(is_solution(web, rims, other), False)
                for wrong in (list(lengths), lengths + (1,), lengths[1:], None, ()):
                    self.assertIs(is_solution(web, rims, wrong), False)

    def test_a_web_without_a_full_place(self):
        self.assertEqual(list(solutions(Web.bundle(1), (8,))), [(4,)])
        self.assertEqual(list(solutions(Web.bundle(2), (8, 8))), [(k, 8 - k) for k in range(1, 8)])
        self.assertEqual(solution_number(Web.bundle(2), (7, 9)), 0)


class Leading(unittest.TestCase, Refusing):
    def test_led_lengths(self):
        source = random.Random(34)
        for web in [CROSS, HEXAGON, Web.bundle(1), Web.crossed(2), Web.crossed(12)] + list(full_webs(1, 1)):
            for other in (web, mixed(web, source)):
                for move in symmetries(other):
                    for _ in range(5):
                        lengths = tuple([source.randint(1, 3) for _ in range(len(other))])
                        found = led_lengths(other, lengths, move)
                        self.assertEqual(found, led_by_words(other, lengths, move))
                        self.assertEqual(rim_lengths(other, found), rim_lengths(other, lengths))

    def test_one_behind_the_other(self):
        for first, second in itertools.product(symmetries(HEXAGON), repeat=2):
            both = tuple([second[end] for end in first])
            led = led_lengths(HEXAGON, led_lengths(HEXAGON, (1, 2, 3), first), second)
            self.assertEqual(led_lengths(HEXAGON, (1, 2, 3), both), led)

    def test_keeping_numbers(self):
        for web in (CROSS, HEXAGON, Web.bundle(1), Web.bundle(4), Web.crossed(2), shuffled(HEXAGON, (3, 1, 5, 2, 0, 4))):
            moves = symmetries(web)
            for lengths in itertools.product((1, 2, 3), repeat=len(web)):
                told = [led_by_words(web, lengths, move) for move in moves].count(lengths)
                self.assertEqual(keeping_number(web, lengths), told)
                self.assertEqual(len(moves) % told, 0)
        self.assertEqual(keeping_number(CROSS, (LONG - 1, LONG - 1)), 4)

    def test_least_solutions(self):
        several = 0
        for web, rims in list(cases()) + [(HEXAGON, (24,)), (Web.crossed(2), (20,))]:
            told = set(solutions(web, rims))
            moves = symmetries(web)
            found = least_solutions(web, rims)
            self.assertIs(type(found), tuple)
            self.assertEqual(list(found), sorted(found))
            total = Fraction(0)
            for lengths, many in found:
                lot = {led_by_words(web, lengths, move) for move in moves}
                self.assertEqual(min(lot), lengths)
                self.assertLessEqual(lot, told)
                self.assertEqual(len(lot) * many, len(moves))
                self.assertEqual(keeping_number(web, lengths), many)
                told -= lot
                several += many > 1
                total += Fraction(1, many)
            self.assertEqual(told, set())
            self.assertEqual(fraction_pair(total), web_count(web, rims))
        self.assertGreater(several, 5)

    def test_wrong_moves(self):
        for web in (CROSS, HEXAGON):
            lengths = (2,) * len(web)
            for move in itertools.permutations(ends(web)):
                if move not in symmetries(web):
                    self.refuses(InvalidOperation, led_lengths, web, lengths, move)
            self.refuses_kinds(InvalidOperation, lambda value: led_lengths(web, lengths, value), lambda value: False)
        self.refuses(InvalidOperation, led_lengths, CROSS, (1, 3), [2, 3, 1, 0])
        self.refuses(InvalidOperation, led_lengths, CROSS, (1, 3), (2, 3, True, False))

    def test_wrong_lengths(self):
        for call in (keeping_number, lambda web, lengths: led_lengths(web, lengths, (0, 1, 2, 3))):
            self.refuses_kinds(InvalidLengths, lambda value: call(CROSS, value),
                               row_of(2, lambda value: is_short(value) and value > 0))
            for wrong in ((1, 0), (1, (1, 2)), ((3, 1), 1), (True, 1), (1,), (1, 1, 1), [1, 1], (1, LONG)):
                self.refuses(InvalidLengths, call, CROSS, wrong)
        self.refuses(InvalidLengths, led_lengths, CROSS, (1, 0), None)
        self.refuses(InvalidWeb, led_lengths, None, (1, 0), None)


class Errors(unittest.TestCase, Refusing):
    def test_rims(self):
        self.assertEqual(module.MAX_SUM, 30)
        for call in TAKING_RIMS:
            self.refuses_kinds(InvalidRims, lambda value: call(THETA, value),
                               lambda value: is_row(1)(value) and len(value) == 3)
            for wrong in ((3, 4), (3, 4, 5, 6), (3, 4, 0), (3, 4, -5), (3, 4, True), (3, 4, (5, 1)), [3, 4, 5],
                          (1, 1, LONG), (30, 30), None):
                self.refuses(InvalidRims, call, THETA, wrong)
            self.refuses(InvalidWeb, call, None, (31, 31))

    def test_sums(self):
        for call in TAKING_RIMS:
            call(THETA, (10, 10, 10))
            call(CROSS, (30,))
            for web, rims in ((THETA, (10, 10, 11)), (CROSS, (31,)), (CROSS, (32,)), (CROSS, (LONG - 1,)),
                              (Web.bundle(8), (1,) * 7 + (24,))):
                self.refuses(TooMany, call, web, rims, limit=30)

    def test_when_a_generator_raises(self):
        for args, error in (((None, (3,)), InvalidWeb), ((CROSS, (3, 4)), InvalidRims), ((CROSS, (31,)), TooMany)):
            found = solutions(*args)
            self.assertRaises(error, next, found)

    def test_other_values_are_judged(self):
        for web, rims in ((THETA, (3, 4, 5)), (CROSS, (8,))):
            self.judges_kinds(lambda value: is_solution(web, rims, value),
                              lambda value: value in list(solutions(web, rims)) and is_row(1)(value))
        self.assertIs(is_solution(CROSS, (4,), (1, 1)), True)
        self.assertIs(is_solution(CROSS, (4,), (True, 1)), False)


class Counts(unittest.TestCase, Refusing):
    def test_counts(self):
        for pair, rims in (((0, 3), (3, 4, 5)), ((0, 3), (2, 2, 6)), ((1, 1), (12,)), ((1, 2), (3, 5)), ((0, 4), (3, 3, 4, 2)),
                           ((2, 1), (14,)), ((1, 2), (2, 3)), ((1, 1), (30,)), ((0, 4), (1, 1, 1, 1))):
            told = [Fraction(*web_count(web, rims)) for web in full_webs(*pair)]
            self.assertEqual(count_by_lists(pair[0], rims), fraction_pair(sum(told, Fraction(0))))

    def test_errors(self):
        for handles, many in BEYOND:
            self.refuses(TooMany, count_by_lists, handles, (1,) * many, limit=4)
            self.refuses(TooMany, count_by_lists, handles, (31,) * many, limit=4)
        for handles, many in LISTED:
            count_by_lists(handles, (30 - many + 1,) + (1,) * (many - 1))
            self.refuses(TooMany, count_by_lists, handles, (31 - many + 1,) + (1,) * (many - 1), limit=30)
        for many in (1, 2):
            self.refuses(Refused, count_by_lists, 0, (31,) * many, reason=("pair",))
        self.refuses(InvalidNumber, count_by_lists, -1, (), given=-1)
        self.refuses(InvalidRims, count_by_lists, 0, ())
        self.refuses(InvalidRims, count_by_lists, 0, (31,) * 9)
        self.refuses(InvalidRims, count_by_lists, 5, (3, 4, 0))

    def test_not_true(self):
        self.assertEqual(solution_number(THETA, (2, 2, 6)), 0)
        self.assertEqual((web_count(CROSS, (8,)), len(least_solutions(CROSS, (8,)))), ((3, 4), 2))

    def test_webs_that_are_not_full(self):
        web = parted(CROSS, 0, 0)
        self.assertEqual(web_count(web, (10,)), (solution_number(web, (10,)), 1))
