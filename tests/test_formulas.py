"""[2.1] to [2.5]: formulas and what is made of them."""

import itertools
import random
import unittest
from fractions import Fraction

from bandrims.base import formulas
from bandrims.base.formulas import Formula, fitted, is_symmetric, mean_of
from bandrims.errors import InvalidFormula, InvalidNumber, InvalidOperation, TooMany
from tests.kinds import (
    LONG, RINGS, Refusing, between, is_either, is_short, kinds, raised, row_of, short)


def pair(value):
    """The pair of a Fraction."""
    return (value.numerator, value.denominator)


def exact(number):
    """The Fraction of a number."""
    return Fraction(*number) if isinstance(number, tuple) else Fraction(number)


def value_at(terms, values):
    """The value of a sum of terms, by the words."""
    found = Fraction(0)
    for row, number in terms.items():
        piece = exact(number)
        for exponent, value in zip(row, values):
            piece *= exact(value) ** exponent
        found += piece
    return found


def some_formulas(letters, size=5, seed=3):
    """Formulas in so many letters."""
    source = random.Random(seed)
    found = [Formula(letters, {}), Formula(letters, {(0,) * letters: (2, 3)}), Formula.letter(letters, letters - 1)]
    for many in (1, 2, 4, 7):
        rows = [tuple([source.randint(0, 2) for _ in range(letters)]) for _ in range(many)]
        terms = {row: pair(Fraction(source.randint(-size, size), source.randint(1, size))) for row in rows}
        found.append(Formula(letters, terms))
    return found


def points(letters):
    """Tuples of as many numbers."""
    source = random.Random(letters)
    found = [(0,) * letters, (1,) * letters, tuple(range(2, 2 + letters))]
    for _ in range(3):
        found.append(tuple([pair(Fraction(source.randint(-9, 9), source.randint(1, 5))) for _ in range(letters)]))
    return found


class Making(unittest.TestCase, Refusing):
    def test_constants(self):
        names = ["MAX_LETTERS", "MAX_DEGREE", "MAX_TERMS", "MAX_TEXT"]
        self.assertEqual([getattr(formulas, name) for name in names], [8, 60, 2000, 4000])

    def test_properties(self):
        made = Formula(3, {(1, 0, 2): 4, (0, 0, 0): (1, 2), (0, 5, 0): 0, (0, 1, 0): (0, 1), (0, 0, 1): (-3, 1)})
        self.assertEqual(made.letters, 3)
        self.assertEqual(list(made.terms.items()), [((0, 0, 0), (1, 2)), ((0, 0, 1), (-3, 1)), ((1, 0, 2), (4, 1))])
        self.assertEqual((made.degree, len(made), bool(made)), (3, 3, True))
        self.assertIs(type(made.terms), dict)

    def test_without_terms(self):
        for letters in range(1, 9):
            for terms in ({}, {(0,) * letters: 0}, {(2,) + (0,) * (letters - 1): (0, 1)}):
                made = Formula(letters, terms)
                self.assertEqual((made.terms, made.degree, len(made), str(made)), ({}, -1, 0, "0"))
                self.assertIs(bool(made), False)

    def test_degrees(self):
        self.assertEqual(Formula(2, {(0, 0): 1}).degree, 0)
        self.assertEqual(Formula(2, {(59, 1): 1, (0, 3): 1}).degree, 60)
        self.assertEqual(Formula(1, {(60,): 1}).degree, 60)
        self.assertEqual(Formula(8, {(7,) * 4 + (8,) * 4: 1}).degree, 60)
        for letters, row in ((2, (59, 2)), (1, (61,)), (8, (8,) * 8), (2, (0, 61))):
            self.refuses(InvalidFormula, Formula, letters, {row: 1})
            self.refuses(InvalidFormula, Formula, letters, {row: 0})

    def test_many_terms(self):
        rows = [(high, low, k) for high in range(20) for low in range(20) for k in range(6)][:2001]
        self.assertEqual(len(Formula(3, {row: 1 for row in rows[:2000]})), 2000)
        self.refuses(InvalidFormula, Formula, 3, {row: 1 for row in rows})
        self.refuses(InvalidFormula, Formula, 3, {row: 0 for row in rows})

    def test_more_terms_are_made(self):
        many = sum([Formula.letter(4, k).at((1, 1, 1, 1))[0] for k in range(4)])
        whole = Formula(4, {(0, 0, 0, 0): 1})
        for k in range(4):
            whole = whole.plus(Formula.letter(4, k))
        whole = whole.power(14)
        self.assertEqual((many, len(whole), whole.degree), (4, 3060, 14))
        self.assertEqual(whole.at((1, 2, 3, 4)), (11 ** 14, 1))
        self.assertEqual(len(whole.scaled(2).plus(whole)), 3060)
        self.assertEqual(mean_of(whole), whole)
        self.assertTrue(is_symmetric(whole))

    def test_errors(self):
        self.refuses_kinds(InvalidNumber, lambda value: Formula(value, {}), between(1, 8), "given")
        for letters in (1, 2):
            self.refuses_kinds(InvalidFormula, lambda value: Formula(letters, value), lambda value: self.told(letters, value))
        self.refuses(InvalidNumber, Formula, 0, None, given=0)
        self.refuses(InvalidNumber, Formula, 9, {}, given=9)
        self.refuses(InvalidNumber, Formula, True, {(1,): 1}, given=True)

    def told(self, letters, value):
        """Whether the value is a dict of terms."""
        if type(value) is not dict or not all(map(is_either, value.values())):
            return False
        return all([row_of(letters, between(0, 60))(row) and sum(row) <= 60 for row in value])

    def test_each_number_and_each_exponent_is_looked_at(self):
        self.refuses_kinds(InvalidFormula, lambda value: Formula(1, {(0,): 1, (1,): value}), is_either)
        for value in kinds():
            if type(value) in (list, dict) or raised(hash, value) is not None or raised(hash, (value,)) is not None:
                continue
            with self.subTest(value=short(value)):
                found = raised(Formula, 2, {(0, 0): 1, (1, value): 1})
                self.assertEqual(type(found), type(None) if between(0, 59)(value) else InvalidFormula)
                found = raised(Formula, 2, {(0, 0): 1, value: 1})
                right = row_of(2, between(0, 60))(value) and sum(value) <= 60
                self.assertEqual(type(found), type(None) if right else InvalidFormula)

    def test_letters(self):
        for letters in range(1, 9):
            for place in range(letters):
                row = tuple([int(k == place) for k in range(letters)])
                self.assertEqual(Formula.letter(letters, place).terms, {row: (1, 1)})
            self.refuses_kinds(InvalidNumber, lambda value: Formula.letter(letters, value),
                               between(0, letters - 1), "given")
        self.refuses_kinds(InvalidNumber, lambda value: Formula.letter(value, 0), between(1, 8), "given")
        self.refuses(InvalidNumber, Formula.letter, 9, 9, given=9)
        self.refuses(InvalidNumber, Formula.letter, None, True, given=None)
        self.refuses(InvalidNumber, Formula.letter, 3, 3, given=3)
        self.refuses(InvalidNumber, Formula.letter, 3, -1, given=-1)

    def test_nothing_is_shared(self):
        terms = {(1, 0): 2, (0, 1): 3}
        made = Formula(2, terms)
        terms[(0, 0)] = 7
        del terms[(1, 0)]
        self.assertEqual(made.terms, {(0, 1): (3, 1), (1, 0): (2, 1)})
        made.terms.clear()
        made.terms[(5, 5)] = (1, 1)
        self.assertEqual(str(made), "2 x0 + 3 x1")
        order = {(0, 1): 1, (1, 0): 0}
        Formula(2, order)
        self.assertEqual(list(order.items()), [((0, 1), 1), ((1, 0), 0)])

    def test_it_never_changes(self):
        made = Formula(2, {(1, 0): 2})
        for name in ("letters", "terms", "degree"):
            self.assertRaises(AttributeError, setattr, made, name, 1)
        text = str(made)
        made.plus(made).times(made).power(2).scaled(3).fixed(0, 2)
        self.assertEqual((str(made), made.terms), (text, {(1, 0): (2, 1)}))

    def test_no_iteration(self):
        self.assertRaises(TypeError, iter, Formula(1, {(0,): 1}))
        self.assertRaises(TypeError, list, Formula(1, {}))

    def test_equality(self):
        made = Formula(2, {(1, 0): 2, (0, 1): (1, 2)})
        self.assertTrue(made == Formula(2, {(0, 1): (1, 2), (1, 0): (2, 1), (5, 5): 0}))
        self.assertFalse(made != Formula(2, {(0, 1): (1, 2), (1, 0): (2, 1)}))
        self.assertFalse(Formula(2, {}) == Formula(3, {}))
        self.assertTrue(Formula(2, {}) != Formula(3, {}))
        self.assertFalse(made == Formula(2, {(1, 0): 2, (0, 1): (1, 3)}))
        self.assertFalse(made == Formula(2, {(1, 0): 2}))
        for value in kinds():
            same = isinstance(value, Formula) and (value.letters, value.terms) == (2, {(1, 0): (1, 1)})
            self.assertIs(Formula.letter(2, 0) == value, same)
            self.assertIs(Formula.letter(2, 0) != value, not same)


class Reckoning(unittest.TestCase, Refusing):
    def test_values(self):
        for letters in (1, 2, 3, 8):
            for one in some_formulas(letters):
                for values in points(letters):
                    found = one.at(values)
                    self.assertEqual(found, pair(value_at(one.terms, values)))

    def test_sums_and_products(self):
        for letters in (1, 2, 4):
            for one, other in itertools.product(some_formulas(letters), some_formulas(letters, 9, 4)):
                self.check_three(one, other, letters)

    def check_three(self, one, other, letters):
        both = [one.plus(other), one.minus(other), one.times(other)]
        for values in points(letters):
            left, right = value_at(one.terms, values), value_at(other.terms, values)
            told = [left + right, left - right, left * right]
            self.assertEqual([made.at(values) for made in both], [pair(value) for value in told])
        for made in both:
            self.assertEqual(list(made.terms), sorted(made.terms))
            self.assertNotIn((0, 1), made.terms.values())
            self.assertEqual(made, Formula(letters, made.terms))
            self.assertEqual(made.letters, letters)

    def test_equal_values_are_equal_terms(self):
        one = Formula(2, {(1, 1): 1, (2, 0): -1, (0, 0): 5})
        other = Formula.letter(2, 0).times(Formula.letter(2, 1).minus(Formula.letter(2, 0))).plus(Formula(2, {(0, 0): 5}))
        self.assertEqual(one, other)
        wrong = other.plus(Formula(2, {(2, 2): (1, 7)}))
        tuples = list(itertools.product(range(3), repeat=2))
        self.assertEqual([one.at(values) for values in tuples], [other.at(values) for values in tuples])
        self.assertNotEqual([one.at(values) for values in tuples], [wrong.at(values) for values in tuples])

    def test_errors_of_two(self):
        made = Formula(2, {(1, 0): 1})
        for call in (made.plus, made.minus, made.times):
            self.refuses_kinds(InvalidFormula, lambda value: None if self.unlike(value) else call(value),
                               lambda value: isinstance(value, Formula))
            self.refuses(InvalidOperation, call, Formula(1, {}))
            self.refuses(InvalidOperation, call, Formula(3, {(60, 0, 0): 1}))

    def unlike(self, value):
        """Whether the value is a formula with another number of letters than 2."""
        return isinstance(value, Formula) and value.letters != 2

    def test_degrees_of_products(self):
        high, low = Formula(2, {(31, 0): 1, (0, 0): 1}), Formula(2, {(0, 29): 2})
        self.assertEqual(high.times(low).degree, 60)
        self.refuses(TooMany, high.times, Formula(2, {(0, 30): 2}), limit=60)
        self.refuses(TooMany, high.times, high, limit=60)
        self.refuses(InvalidOperation, high.times, Formula(3, {(0, 0, 60): 2}))
        full = Formula(2, {(60, 0): 1})
        for factor in (Formula(2, {}), Formula(2, {(0, 0): 3})):
            self.assertEqual(full.times(factor).degree, 60 if factor else -1)
            self.assertEqual(factor.times(full).degree, 60 if factor else -1)
        self.refuses(TooMany, full.times, Formula(2, {(0, 1): 1}), limit=60)

    def test_scaled(self):
        made = Formula(2, {(1, 0): 2, (0, 1): (1, 2)})
        self.assertEqual(made.scaled((2, 3)).terms, {(0, 1): (1, 3), (1, 0): (4, 3)})
        self.assertEqual(made.scaled(0), Formula(2, {}))
        self.assertEqual(made.scaled((0, 1)).degree, -1)
        self.assertEqual(made.scaled(-1), Formula(2, {}).minus(made))
        self.refuses_kinds(InvalidNumber, made.scaled, is_either, "given")

    def test_powers(self):
        for letters in (1, 2):
            for one in some_formulas(letters):
                told = Formula(letters, {(0,) * letters: 1})
                for many in range(6):
                    self.assertEqual(one.power(many), told)
                    told = told.times(one)

    def test_bounds_of_powers(self):
        self.assertEqual(Formula.letter(2, 1).power(60).terms, {(0, 60): (1, 1)})
        self.assertEqual(Formula(1, {(20,): 2}).power(3).terms, {(60,): (8, 1)})
        self.refuses(TooMany, Formula(1, {(20,): 2}).power, 4, limit=60)
        self.refuses(TooMany, Formula(1, {(31,): 2}).power, 2, limit=60)
        self.assertEqual(Formula(1, {(60,): 2}).power(1).degree, 60)
        self.assertEqual(Formula(1, {(60,): 2}).power(0).terms, {(0,): (1, 1)})
        self.assertEqual(Formula(1, {(0,): (1, 2)}).power(60).terms, {(0,): (1, 2 ** 60)})
        self.assertEqual(Formula(3, {}).power(0).terms, {(0, 0, 0): (1, 1)})
        self.assertEqual(Formula(3, {}).power(60).terms, {})
        self.refuses(InvalidNumber, Formula.letter(2, 1).power, 61, given=61)
        self.refuses(InvalidNumber, Formula(1, {(60,): 1}).power, -1, given=-1)
        self.refuses_kinds(InvalidNumber, Formula(1, {(1,): 1}).power, between(0, 60), "given")

    def test_errors_of_values(self):
        made = Formula(2, {(1, 0): 1})
        self.refuses_kinds(InvalidOperation, made.at, row_of(2, is_either))
        self.refuses_kinds(InvalidOperation, lambda value: made.at((1, value)), is_either)
        self.refuses_kinds(InvalidOperation, lambda value: made.at((value, 1)), is_either)
        for values in ((1,), (1, 2, 3), [1, 2], (1, (2, 4)), (LONG, 1)):
            self.refuses(InvalidOperation, made.at, values)

    def test_parts(self):
        made = Formula(2, {(1, 0): 1, (0, 1): 2, (2, 1): 3, (0, 0): 4, (0, 60): 5})
        self.assertEqual([made.part(k).terms for k in (0, 1, 2, 3, 60)],
                         [{(0, 0): (4, 1)}, {(0, 1): (2, 1), (1, 0): (1, 1)}, {}, {(2, 1): (3, 1)}, {(0, 60): (5, 1)}])
        whole = Formula(2, {})
        for k in range(61):
            whole = whole.plus(made.part(k))
        self.assertEqual(whole, made)
        self.refuses_kinds(InvalidNumber, made.part, between(0, 60), "given")

    def test_coefficients(self):
        made = Formula(2, {(1, 0): 1, (0, 1): (2, 3)})
        self.assertEqual([made.coefficient(row) for row in ((1, 0), (0, 1), (1, 1), (0, 0), (60, 60))],
                         [(1, 1), (2, 3), (0, 1), (0, 1), (0, 1)])
        self.refuses_kinds(InvalidOperation, made.coefficient, row_of(2, between(0, 60)))
        for row in ((True, 0), (1, False), (1,), (1, 0, 0), (61, 0), (0, -1), [1, 0]):
            self.refuses(InvalidOperation, made.coefficient, row)

    def test_exchanged(self):
        made = Formula(3, {(1, 2, 3): 5, (4, 0, 0): 7})
        self.assertEqual(made.exchanged((1, 2, 0)).terms, {(0, 4, 0): (7, 1), (3, 1, 2): (5, 1)})
        for order in itertools.permutations(range(3)):
            moved = made.exchanged(order)
            for values in points(3):
                self.assertEqual(moved.at(values), made.at(tuple([values[k] for k in order])))
        right = row_of(3, between(0, 2))
        self.refuses_kinds(InvalidOperation, made.exchanged, lambda value: right(value) and sorted(value) == [0, 1, 2])
        for order in ((0, 1), (0, 1, 1), (1, 2, 3), (0, True, 2), (False, 1, 2), [0, 1, 2], (0, 1, 2, 3), (-1, 0, 1)):
            self.refuses(InvalidOperation, made.exchanged, order)
        self.assertEqual(Formula.letter(1, 0).exchanged((0,)), Formula.letter(1, 0))

    def test_fixed(self):
        for one in some_formulas(3):
            for place in range(3):
                for number in (0, 1, (-2, 3), (0, 1), 5):
                    found = one.fixed(place, number)
                    self.assertEqual(found.letters, 3)
                    self.assertTrue(all([row[place] == 0 for row in found.terms]))
                    for values in points(3):
                        put = values[:place] + (number,) + values[place + 1:]
                        self.assertEqual(found.at(values), one.at(put))

    def test_errors_of_fixed(self):
        made = Formula(3, {(1, 2, 3): 5})
        self.refuses_kinds(InvalidNumber, lambda value: made.fixed(value, 1), between(0, 2), "given")
        self.refuses_kinds(InvalidNumber, lambda value: made.fixed(0, value), is_either, "given")
        self.refuses(InvalidNumber, made.fixed, 3, None, given=3)
        self.refuses(InvalidNumber, made.fixed, 0, False, given=False)

    def test_not_true(self):
        zero = Formula(2, {(1, 0): 1, (0, 1): -1})
        self.assertEqual((zero.degree, zero.at((0, 0)), zero.at((1, 1)), bool(zero)), (1, (0, 1), (0, 1), True))
        one, other = Formula(1, {(1,): 1, (0,): 1}), Formula(1, {(1,): 1, (0,): -1})
        self.assertNotEqual(len(one.times(other)), len(one) * len(other))


class Means(unittest.TestCase, Refusing):
    def test_means(self):
        for letters in (1, 2, 3, 4):
            orders = list(itertools.permutations(range(letters)))
            for one in some_formulas(letters):
                whole = Formula(letters, {})
                for order in orders:
                    whole = whole.plus(one.exchanged(order))
                found = mean_of(one)
                self.assertEqual(found, whole.scaled((1, len(orders))))
                self.assertTrue(is_symmetric(found))
                same = all([one.exchanged(order) == one for order in orders])
                self.assertIs(is_symmetric(one), same)
                self.assertIs(found == one, same)

    def test_symmetric_in_some_letters_only(self):
        for letters in (2, 3, 5, 8):
            whole = Formula(letters, {})
            for k in range(letters):
                whole = whole.plus(Formula.letter(letters, k))
            self.assertIs(is_symmetric(whole), True)
            for k in range(letters):
                self.assertIs(is_symmetric(whole.plus(Formula.letter(letters, k).scaled((1, 5)))), False)
                self.assertIs(is_symmetric(whole.minus(Formula.letter(letters, k))), False)
        turned = Formula(3, {(2, 1, 0): 1, (0, 2, 1): 1, (1, 0, 2): 1})
        self.assertIs(is_symmetric(turned), False)
        self.assertEqual(len(mean_of(turned)), 6)

    def test_errors(self):
        for call in (is_symmetric, mean_of):
            self.refuses_kinds(InvalidFormula, call, lambda value: isinstance(value, Formula))
            self.refuses(InvalidFormula, call, RINGS)


class Fitting(unittest.TestCase, Refusing):
    def test_fitted(self):
        source = random.Random(5)
        for many in (1, 2, 3, 8, 30):
            spots = source.sample(range(-50, 50), many)
            values = {spot: pair(Fraction(source.randint(-9, 9), source.randint(1, 9))) for spot in spots}
            kept = list(values.items())
            found = fitted(values)
            self.assertEqual(list(values.items()), kept)
            self.assertEqual(found.letters, 1)
            self.assertLess(found.degree, many)
            self.assertEqual({spot: found.at((spot,)) for spot in values}, values)

    def test_it_finds_what_was_there(self):
        for one in some_formulas(1):
            self.assertEqual(fitted({k: one.at((k,)) for k in (5, -3, 10 ** 40, 0, 2)}), one)

    def test_bounds(self):
        self.assertEqual(fitted({7: (0, 1)}), Formula(1, {}))
        self.assertEqual(fitted({-7: 3}), Formula(1, {(0,): 3}))
        self.assertEqual(fitted({k: k ** 5 for k in range(61)}).terms, {(5,): (1, 1)})
        last = fitted({k: int(k == 60) for k in range(61)})
        self.assertEqual((last.degree, last.at((60,)), last.at((59,))), (60, (1, 1), (0, 1)))
        self.refuses(InvalidOperation, fitted, {k: 1 for k in range(62)})
        self.refuses(InvalidOperation, fitted, {})
        self.assertEqual(fitted({1 - LONG: 1, LONG - 1: 1}).terms, {(0,): (1, 1)})

    def test_errors(self):
        def right(value):
            return (type(value) is dict and 1 <= len(value) <= 61 and all(map(is_short, value))
                    and all(map(is_either, value.values())))
        self.refuses_kinds(InvalidOperation, fitted, right)
        self.refuses_kinds(InvalidOperation, lambda value: fitted({0: 1, 1: value}), is_either)
        for values in ({True: 1}, {0: 1, LONG: 1}, {(1, 1): 1}, {"1": 1}, {0: True}, [(0, 1)], ((0, 1),)):
            self.refuses(InvalidOperation, fitted, values)
