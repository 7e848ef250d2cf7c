"""[1.3] to [1.6] and the functions of bandrims.base.numbers."""

import random
import unittest
from fractions import Fraction
from math import comb, factorial as whole_factorial

from bandrims.base import numbers
from bandrims.base.numbers import (
    added, bernoulli, binomial, compared, divided, factorial, floor_of, fraction, is_fraction, is_integer,
    is_name, is_number, less, multiplied, number_of_text, number_text, odd_product, power_of)
from bandrims.errors import InvalidNumber, InvalidOperation, ParseError
from tests.kinds import LONG, Refusing, between, is_either, is_pair, is_short, is_whole, short


def pair(value):
    """The pair of a Fraction."""
    return (value.numerator, value.denominator)


def exact(number):
    """The Fraction of a number."""
    return Fraction(*number) if isinstance(number, tuple) else Fraction(number)


def some_numbers():
    """Numbers of many sizes, integers and fractions."""
    source = random.Random(7)
    found = [0, 1, -1, (0, 1), (1, 1), (-1, 1), 7, (7, 1), LONG - 1, 1 - LONG, (10 ** 99, 1), (-1, 10 ** 99)]
    for size in (3, 9, 40, 10 ** 9, 10 ** 59):
        for _ in range(4):
            found.append(source.randint(-size, size))
            found.append(pair(Fraction(source.randint(-size, size), source.randint(1, size))))
    return found


class Judging(unittest.TestCase, Refusing):
    def test_constants(self):
        names = ["MAX_NAME", "MAX_RAISED", "MAX_CHOSEN", "MAX_BERNOULLI", "MAX_TEXT"]
        self.assertEqual([getattr(numbers, name) for name in names], [8, 1000, 1000, 60, 400])

    def test_kinds(self):
        self.judges_kinds(is_integer, is_short)
        self.judges_kinds(is_fraction, is_pair)
        self.judges_kinds(is_number, is_either)
        self.judges_kinds(is_name, lambda value: value in ("a", "abcdefgh") if type(value) is str else False)

    def test_integers(self):
        right = [0, 1, -1, LONG - 1, 1 - LONG, 10 ** 59]
        self.assertEqual([is_integer(value) for value in right], [True] * 6)
        wrong = [True, False, LONG, -LONG, None, "1", (1, 1), [1]]
        self.assertEqual([is_integer(value) for value in wrong], [False] * 8)

    def test_names(self):
        self.assertTrue(all([is_name(letter) for letter in "abcdefghijklmnopqrstuvwxyz"]))
        self.assertTrue(is_name("z" * 8))
        wrong = ["", "z" * 9, "A", "aB", "a b", "a1", "a_", "`", "{", "a\n", None, 1, ("a",), ["a"]]
        self.assertEqual([value for value in wrong if is_name(value)], [])

    def test_fractions(self):
        right = [(0, 1), (1, 1), (3, 1), (-1, 2), (10 ** 99, 10 ** 99 + 1), (LONG, 1), (1, LONG)]
        self.assertEqual([value for value in right if not is_fraction(value)], [])
        wrong = [(2, 4), (0, 2), (1, 0), (1, -2), (0, -1), (-2, 4), (True, 2), (1, True), [1, 2], (1,), (1, 2, 3), 3]
        self.assertEqual([value for value in wrong if is_fraction(value)], [])

    def test_numbers(self):
        self.assertEqual([is_number(LONG - 1), is_number(LONG), is_number((LONG, 1)), is_number(True)],
                         [True, False, True, False])


class Reckoning(unittest.TestCase, Refusing):
    def test_fraction(self):
        for top in (-12, -7, -1, 0, 1, 6, 10 ** 300):
            for bottom in (-12, -1, 1, 4, 10 ** 299):
                self.assertEqual(fraction(top, bottom), pair(Fraction(top, bottom)))

    def test_fraction_errors(self):
        self.refuses_kinds(InvalidNumber, lambda value: fraction(value, 2), is_whole, "given")
        self.refuses_kinds(InvalidNumber, lambda value: fraction(1, value),
                           lambda value: is_whole(value) and value != 0, "given")
        self.refuses(InvalidNumber, fraction, None, 0, given=None)
        self.refuses(InvalidNumber, fraction, (1, 2), "a", given=(1, 2))
        self.refuses(InvalidNumber, fraction, 0, 0, given=0)
        self.refuses(InvalidNumber, fraction, 0, False, given=False)

    def test_four_kinds_of_reckoning(self):
        for one in some_numbers():
            for other in some_numbers():
                left, right = exact(one), exact(other)
                self.assertEqual(added(one, other), pair(left + right))
                self.assertEqual(less(one, other), pair(left - right))
                self.assertEqual(multiplied(one, other), pair(left * right))
                self.assertEqual(compared(one, other), (left > right) - (left < right))
                if right == 0:
                    self.refuses(InvalidOperation, divided, one, other)
                else:
                    self.assertEqual(divided(one, other), pair(left / right))

    def test_results_are_pairs(self):
        for found in (added(1, 2), less(2, 2), multiplied(2, 0), divided(4, 2), power_of(2, 2), power_of(0, 0)):
            self.assertTrue(is_pair(found))
        self.assertIs(type(compared(1, 1)), int)
        self.assertEqual([compared(3, (3, 1)), compared((3, 1), 3), compared(2, 3), compared(3, 2)], [0, 0, -1, 1])

    def test_reckoning_errors(self):
        for call in (added, less, multiplied, divided, compared):
            self.refuses_kinds(InvalidNumber, lambda value: call(value, 2), is_either, "given")
            self.refuses(InvalidNumber, call, None, True, given=None)
            self.refuses(InvalidNumber, call, True, 0, given=True)
            self.refuses(InvalidNumber, call, 1, False, given=False)
            self.refuses(InvalidNumber, call, LONG, (2, 4), given=LONG)
            self.refuses(InvalidNumber, call, 0, -LONG, given=-LONG)
        for call in (added, less, multiplied, compared):
            self.refuses_kinds(InvalidNumber, lambda value: call(2, value), is_either, "given")
        # A 0 is a number: that it is refused as a divisor is another error.
        zeros = (0, (0, 1))
        self.refuses_kinds(InvalidNumber, lambda value: None if is_either(value) and value in zeros else divided(2, value),
                           is_either, "given")
        self.refuses(InvalidOperation, divided, 0, 0)
        self.refuses(InvalidOperation, divided, (1, 2), (0, 1))
        self.refuses(InvalidNumber, divided, (2, 4), 0, given=(2, 4))

    def test_powers(self):
        for number in (0, 1, -1, 3, -2, (0, 1), (2, 3), (-3, 2), (1, 7), LONG - 1):
            for many in (0, 1, 2, 3, 7, 8, 60, -1, -2, -7):
                if exact(number) == 0 and many < 0:
                    self.refuses(InvalidOperation, power_of, number, many)
                else:
                    self.assertEqual(power_of(number, many), pair(exact(number) ** many))
        self.assertEqual(power_of(2, 1000), (2 ** 1000, 1))
        self.assertEqual(power_of(-2, -999), (-1, 2 ** 999))
        self.assertEqual(power_of((-2, 3), -1000), (3 ** 1000, 2 ** 1000))

    def test_power_errors(self):
        self.refuses_kinds(InvalidNumber, lambda value: power_of(value, 2), is_either, "given")
        self.refuses_kinds(InvalidNumber, lambda value: power_of(2, value), between(-1000, 1000), "given")
        self.refuses(InvalidNumber, power_of, None, None, given=None)
        self.refuses(InvalidNumber, power_of, True, 1001, given=True)
        self.refuses(InvalidNumber, power_of, 0, -1001, given=-1001)
        self.refuses(InvalidNumber, power_of, 1, 1001, given=1001)
        self.refuses(InvalidNumber, power_of, 1, True, given=True)
        self.refuses(InvalidNumber, power_of, 1, (1, 1), given=(1, 1))
        self.refuses(InvalidOperation, power_of, (0, 1), -1)

    def test_floors(self):
        for number in some_numbers():
            found = floor_of(number)
            self.assertIs(type(found), int)
            self.assertTrue(found <= exact(number) < found + 1)
        self.assertEqual([floor_of((-1, 2)), floor_of((1, 2)), floor_of(-3), floor_of((-4, 1))], [-1, 0, -3, -4])
        self.refuses_kinds(InvalidNumber, floor_of, is_either, "given")

    def test_not_true_of_floors(self):
        self.assertNotEqual(floor_of(added((1, 2), (1, 2))), floor_of((1, 2)) + floor_of((1, 2)))


class Products(unittest.TestCase, Refusing):
    def test_factorials(self):
        for number in (0, 1, 2, 3, 10, 999, 1000):
            self.assertEqual(factorial(number), whole_factorial(number))
        self.refuses_kinds(InvalidNumber, factorial, between(0, 1000), "given")

    def test_binomials(self):
        for top in range(9):
            for low in range(12):
                self.assertEqual(binomial(top, low), comb(top, low))
        self.assertEqual([binomial(1000, 500), binomial(0, 1000)], [comb(1000, 500), 0])
        self.refuses_kinds(InvalidNumber, lambda value: binomial(value, 1), between(0, 1000), "given")
        self.refuses_kinds(InvalidNumber, lambda value: binomial(5, value), between(0, 1000), "given")
        self.refuses(InvalidNumber, binomial, -1, 1001, given=-1)
        self.refuses(InvalidNumber, binomial, 1000, 1001, given=1001)
        self.refuses(InvalidNumber, binomial, True, None, given=True)

    def test_odd_products(self):
        for half in range(500):
            told = whole_factorial(2 * half) // (2 ** half * whole_factorial(half))
            self.assertEqual(odd_product(2 * half - 1), told)
        self.refuses_kinds(InvalidNumber, odd_product,
                           lambda value: between(-1, 999)(value) and value % 2 == 1, "given")
        for wrong in (-3, -2, 0, 2, 998, 1000, 1001, True, (1, 1)):
            self.refuses(InvalidNumber, odd_product, wrong, given=wrong)

    def test_bernoulli_by_their_sums(self):
        known = [exact(bernoulli(number)) for number in range(61)]
        self.assertEqual(known[0], 1)
        for m in range(1, 61):
            self.assertEqual(sum([comb(m + 1, k) * known[k] for k in range(m + 1)]), 0)
        for m in range(3, 61, 2):
            self.assertEqual(bernoulli(m), (0, 1))
        for m in range(2, 61, 2):
            self.assertEqual(known[m] > 0, m // 2 % 2 == 1)

    def test_bernoulli_bottoms(self):
        primes = [p for p in range(2, 62) if all([p % q != 0 for q in range(2, p)])]
        for m in range(2, 61, 2):
            told = 1
            for p in primes:
                told *= p if m % (p - 1) == 0 else 1
            self.assertEqual(bernoulli(m)[1], told)

    def test_sums_of_powers(self):
        for m in range(1, 9):
            for n in range(1, 7):
                rows = [comb(m + 1, k) * exact(bernoulli(k)) * n ** (m + 1 - k) for k in range(m + 1)]
                self.assertEqual(sum(rows) / (m + 1), sum([j ** m for j in range(1, n)]))

    def test_bernoulli_errors(self):
        self.refuses_kinds(InvalidNumber, bernoulli, between(0, 60), "given")

    def test_not_true_of_bernoulli(self):
        sizes = [abs(exact(bernoulli(m))) for m in range(2, 61, 2)]
        self.assertNotEqual(sizes, sorted(sizes, reverse=True))


class Texts(unittest.TestCase, Refusing):
    def test_there_and_back(self):
        for number in some_numbers():
            text = number_text(number)
            self.assertEqual(text, str(exact(number)))
            self.assertEqual(number_of_text(text), pair(exact(number)))
        self.refuses_kinds(InvalidNumber, number_text, is_either, "given")

    def test_long_texts(self):
        self.assertEqual(number_of_text("7" * 400), (int("7" * 400), 1))
        self.assertEqual(number_of_text("-" + "7" * 399), (-int("7" * 399), 1))
        self.assertEqual(number_of_text("1" * 198 + "/" + "1" + "0" * 200), (int("1" * 198), 10 ** 200))
        self.refuses(ParseError, number_of_text, "7" * 401, spot=0)
        self.assertEqual(number_text((10 ** 3999, 1)), "1" + "0" * 3999)

    def test_wrong_texts(self):
        wrong = ["", "-", "+1", " 1", "1 ", "1\n", "01", "-0", "00", "--1", "- 1", "1/", "/2", "1//2", "1/2/3", "2/4",
                 "3/1", "1/0", "0/1", "0/2", "1/-2", "-1/-2", "1.0", "1e3", "1_0", "x", "0x1", "True", "1/02", "-01/2"]
        for text in wrong:
            with self.subTest(text=text):
                self.refuses(ParseError, number_of_text, text, spot=0)

    def test_wrong_kinds_of_texts(self):
        right = ("0", "1", "-1/2", "7" * 400)
        self.refuses_kinds(ParseError, number_of_text, lambda value: type(value) is str and value in right)
        for value in (None, 1, True, ("1",), ["1"], {"1": 1}, (1, 2)):
            self.refuses(ParseError, number_of_text, value, spot=0)

    def test_texts_one_sign_off(self):
        signs = "0123456789-/ +x"
        for text in ("-3/2", "5", "10/3", "0"):
            near = [text[:k] + sign + text[k:] for k in range(len(text) + 1) for sign in signs]
            near += [text[:k] + sign + text[k + 1:] for k in range(len(text)) for sign in signs]
            near += [text[:k] + text[k + 1:] for k in range(len(text))]
            for other in near:
                with self.subTest(text=short(other)):
                    self.check_text(other)

    def check_text(self, text):
        top, slash, bottom = text.removeprefix("-").partition("/")
        if top.isdigit() and (bottom.isdigit() and int(bottom) > 0 or not slash):
            told = Fraction(text)
            if str(told) == text:
                self.assertEqual(number_of_text(text), pair(told))
                return
        self.refuses(ParseError, number_of_text, text, spot=0)
