"""[11.1] to [11.5]: tau numbers."""

import itertools
import random
import unittest
from fractions import Fraction
from math import factorial

from bandrims.errors import InvalidNumber, InvalidOperation, Refused, TooMany
from bandrims.tables.forms import form_top
from bandrims.tops import tau
from bandrims.tops.tau import handles_of, tau_by_rules, tau_number, tau_row, tau_terms
from tests.kinds import LONG, Refusing, kinds, raised, short
from tests.specs import is_row
from tests.test_recursion import BEYOND, PAIRS
from tests.test_solutions import fraction_pair

CALLS = (handles_of, tau_number, tau_terms, tau_by_rules)


def odd(number):
    """The product of 1, 3, 5, .., 1 for -1."""
    found = 1
    for factor in range(1, number + 1, 2):
        found *= factor
    return found


def handles_by_words(exponents):
    """The number of handles of [11.1], None without handles."""
    for handles in range(9):
        if 3 * handles - 3 + len(exponents) == sum(exponents) and 2 * handles - 2 + len(exponents) >= 1:
            return handles
    return None


def parts_by_words(exponents):
    """What [11.2] adds up: pairs of a factor and a list of one or two tuples of exponents."""
    k, rest = exponents[0], exponents[1:]
    for at, d in enumerate(rest):
        if k + d >= 1:
            yield Fraction(odd(2 * k + 2 * d - 1), odd(2 * d - 1)), [(k + d - 1,) + rest[:at] + rest[at + 1:]]
    for a in range(k - 1):
        b = k - 2 - a
        factor = Fraction(odd(2 * a + 1) * odd(2 * b + 1), 2)
        yield factor, [(a, b) + rest]
        for chosen in itertools.product((True, False), repeat=len(rest)):
            one = tuple([d for d, there in zip(rest, chosen) if there])
            other = tuple([d for d, there in zip(rest, chosen) if not there])
            yield factor, [(a,) + one, (b,) + other]


KNOWN = {}


def tau_by_words(exponents):
    """The tau number by [11.2], the exponents taken as they stand."""
    if exponents not in KNOWN:
        if handles_by_words(exponents) is None:
            found = Fraction(0)
        elif exponents in ((0, 0, 0), (1,)):
            found = Fraction(1) if exponents == (0, 0, 0) else Fraction(1, 24)
        else:
            found = Fraction(0)
            for factor, parts in parts_by_words(exponents):
                for part in parts:
                    factor *= tau_by_words(part) if handles_by_words(part) is not None else 0
                found += factor
            found /= odd(2 * exponents[0] + 1)
        KNOWN[exponents] = found
    return KNOWN[exponents]


def rules_by_words(exponents):
    """The tau number by [11.3] and [11.4] alone, None if they do not tell it."""
    handles = handles_by_words(exponents)
    if handles is None:
        return Fraction(0)
    if handles == 0:
        found = Fraction(factorial(len(exponents) - 3))
        for exponent in exponents:
            found /= factorial(exponent)
        return found
    if len(exponents) == 1:
        return Fraction(1, 24 ** handles * factorial(handles))
    for number in (0, 1):
        if number in exponents:
            at = exponents.index(number)
            rest = exponents[:at] + exponents[at + 1:]
            if number == 1:
                told = rules_by_words(rest)
                return None if told is None else (2 * handles - 2 + len(rest)) * told
            told = [rules_by_words(rest[:k] + (rest[k] - 1,) + rest[k + 1:]) for k in range(len(rest)) if rest[k] >= 1]
            return None if None in told else sum(told, Fraction(0))
    return None


def descending(many, whole, most=None):
    """All descending tuples of so many exponents with a sum."""
    if many == 0:
        return [()] if whole == 0 else []
    return [(first,) + rest for first in range(min(whole, whole if most is None else most), -1, -1)
            for rest in descending(many - 1, whole - first, first)]


def some_exponents():
    """Exponents with and without handles, with sums of at most 8, in mixed sequence."""
    source = random.Random(71)
    found = [row for many in range(1, 6) for whole in range(7) for row in descending(many, whole)]
    found += [row for many, whole in ((1, 7), (2, 8), (4, 7), (7, 7), (8, 5), (8, 8), (7, 4)) for row in descending(many, whole)]
    return [tuple(source.sample(row, len(row))) for row in found]


class Numbers(unittest.TestCase):
    def test_handles(self):
        for exponents in some_exponents() + [(19,), (20,), (10, 10), (20, 0, 0, 0, 0, 0, 0, 0), (3,) * 6]:
            told = handles_by_words(exponents)
            self.assertEqual(handles_of(exponents), told)
            self.assertEqual(tau_number(exponents)[0] > 0, told is not None)
            self.assertGreaterEqual(tau_number(exponents)[0], 0)
        self.assertEqual([handles_of(row) for row in ((0,), (0, 0), (0, 0, 0), (1,), (1, 1), (4,), (0, 2), (0, 0, 0, 1))],
                         [None, None, 0, 1, 1, 2, 1, 0])

    def test_recursion(self):
        for exponents in some_exponents():
            self.assertEqual(tau_number(exponents), fraction_pair(tau_by_words(exponents)))

    def test_sequence(self):
        for exponents in ((0, 1, 4), (5, 0, 1, 0), (2, 3, 0, 1, 2), (9, 1, 0, 3), (20, 0), (4, 3, 3)):
            told = {tau_number(order) for order in itertools.permutations(exponents)}
            self.assertEqual(len(told), 1)
            self.assertEqual({tau_by_words(order) for order in itertools.permutations(exponents)},
                             {Fraction(*told.pop())})

    def test_zeros_and_ones(self):
        for exponents in some_exponents():
            handles = handles_by_words(exponents)
            if handles is None or exponents in ((0, 0, 0), (1,)):
                continue
            rest = exponents[1:]
            if exponents[0] == 0:
                told = [Fraction(*tau_number(rest[:k] + (rest[k] - 1,) + rest[k + 1:]))
                        for k in range(len(rest)) if rest[k] >= 1]
                self.assertEqual(tau_number(exponents), fraction_pair(sum(told)))
            if exponents[0] == 1:
                told = (2 * handles - 2 + len(rest)) * Fraction(*tau_number(rest))
                self.assertEqual(tau_number(exponents), fraction_pair(told))

    def test_closed_numbers(self):
        for many in range(3, 9):
            for row in descending(many, many - 3):
                told = Fraction(factorial(many - 3))
                for exponent in row:
                    told /= factorial(exponent)
                self.assertEqual(tau_number(row), fraction_pair(told))
        for handles in range(1, 8):
            self.assertEqual(tau_number((3 * handles - 2,)), (1, 24 ** handles * factorial(handles)))

    def test_tops_of_forms(self):
        # The greatest parts of the forms are told by tau numbers.
        for handles, many in PAIRS:
            for row, number in form_top(handles, many).terms.items():
                told = Fraction(*tau_number(row)) / 2 ** (5 * handles - 6 + 2 * many)
                for exponent in row:
                    told /= factorial(exponent)
                self.assertEqual(number, fraction_pair(told))

    def test_great_sums(self):
        self.assertEqual(tau_number((19,)), (1, 24 ** 7 * factorial(7)))
        for exponents in ((2, 2, 2, 2, 2, 2, 3, 5), (0, 0, 0, 0, 5, 5, 5, 5), (10, 10), (4, 4, 4, 4, 4)):
            self.assertEqual(tau_number(exponents), fraction_pair(tau_by_words(tuple(sorted(exponents)))))

    def test_not_true(self):
        self.assertEqual(tau_number((2, 3)), (29, 5760))
        self.assertEqual(tau_number((0, 2)), (1, 24))


class Terms(unittest.TestCase):
    def told(self, exponents):
        """The terms by words."""
        if handles_by_words(exponents) is None or exponents in ((0, 0, 0), (1,)):
            return ()
        found = {}
        for factor, parts in parts_by_words(exponents):
            if None not in [handles_by_words(part) for part in parts]:
                key = tuple(sorted([tuple(sorted(part, reverse=True)) for part in parts]))
                found[key] = found.get(key, 0) + factor / odd(2 * exponents[0] + 1)
        return tuple([(key, fraction_pair(found[key])) for key in sorted(found)])

    def test_terms(self):
        several = 0
        for exponents in some_exponents() + [(12, 3), (3, 12), (6, 6, 2), (2, 6, 6), (19,), (4, 3, 3, 0)]:
            found = tau_terms(exponents)
            self.assertEqual(found, self.told(exponents))
            several += len(found) > 3
        self.assertGreater(several, 20)

    def test_they_add_up(self):
        for exponents in some_exponents():
            if exponents in ((0, 0, 0), (1,)):
                self.assertEqual(tau_terms(exponents), ())
                continue
            found = Fraction(0)
            for parts, factor in tau_terms(exponents):
                told = Fraction(*factor)
                for part in parts:
                    self.assertEqual(list(part), sorted(part, reverse=True))
                    # A part can have nine exponents.
                    told *= tau_by_words(part)
                self.assertGreater(told, 0)
                found += told
            self.assertEqual(tau_number(exponents), fraction_pair(found))

    def test_the_first_exponent_counts(self):
        self.assertNotEqual(tau_terms((2, 3)), tau_terms((3, 2)))
        self.assertEqual(tau_terms((0, 2)), ((((1,),), (1, 1)),))
        self.assertEqual(tau_terms((2, 0)), ((((0, 0, 0),), (1, 30)), (((1,),), (1, 5))))


class Rows(unittest.TestCase, Refusing):
    def test_rows(self):
        for handles, many in PAIRS:
            told = {row: fraction_pair(tau_by_words(row)) for row in descending(many, 3 * handles - 3 + many)}
            found = tau_row(handles, many)
            self.assertEqual(found, told)
            self.assertEqual(list(found), sorted(told))

    def test_errors(self):
        for pair in BEYOND:
            self.refuses(TooMany, tau_row, *pair, limit=5)
        for many in (1, 2):
            self.refuses(Refused, tau_row, 0, many, reason=("pair",))
        self.refuses(InvalidNumber, tau_row, -1, 0, given=-1)
        self.refuses(InvalidNumber, tau_row, 0, 0, given=0)


class Rules(unittest.TestCase):
    def test_rules(self):
        kinds_found = set()
        for exponents in some_exponents() + [(19,), (18, 1), (0, 20), (10, 9, 1), (0, 1, 18), (1, 0, 19, 0)]:
            told = rules_by_words(exponents)
            found = tau_by_rules(exponents)
            self.assertEqual(found, None if told is None else fraction_pair(told))
            if found is not None:
                self.assertEqual(found, tau_number(exponents))
            kinds_found.add(found is None)
        self.assertEqual(kinds_found, {True, False})

    def test_without_rules(self):
        self.assertIsNone(tau_by_rules((2, 3)))
        self.assertIsNone(tau_by_rules((1, 2, 3)))
        self.assertIsNone(tau_by_rules((0, 3, 3)))
        self.assertEqual(tau_by_rules((2, 2)), (0, 1))
        self.assertEqual(tau_by_rules((0, 0, 0)), (1, 1))
        self.assertEqual(tau_by_rules((1,)), (1, 24))


class Errors(unittest.TestCase, Refusing):
    def test_constants(self):
        self.assertEqual((tau.MOST_SUM, tau.MOST_EXPONENTS), (20, 8))

    def test_exponents(self):
        for call in CALLS:
            for value in kinds():
                with self.subTest(call=call.__name__, value=short(value)):
                    told = InvalidOperation if not is_row(0)(value) else TooMany if sum(value) > 20 else type(None)
                    self.assertIs(type(raised(call, value)), told)
            for wrong in ((), (-1,), (0,) * 9, [1, 1], (1, True), (1, (1, 1)), None, (LONG,), 1, (0, 0, "0")):
                self.refuses(InvalidOperation, call, wrong)

    def test_sums(self):
        for call in CALLS:
            for right in ((20,), (19,), (10, 10), (20,) + (0,) * 7, (3, 3, 3, 3, 2, 2, 2, 2)):
                self.assertIsNone(raised(call, right))
            for wrong in ((21,), (10, 11), (20, 0, 0, 0, 0, 0, 0, 1), (22,), (LONG - 1,) * 8):
                self.refuses(TooMany, call, wrong, limit=20)
            self.refuses(InvalidOperation, call, (21, -1))
            self.refuses(InvalidOperation, call, (21,) * 9)
