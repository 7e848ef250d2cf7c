"""Integers, fractions, names, and the numbers that are made of them."""

from math import comb, gcd

from bandrims.base.pairs import (
    as_pair, is_any_integer, pair_less, pair_of_text, pair_power, pair_product,
    pair_quotient, pair_sum, pair_text, pair_total, reduced)
from bandrims.errors import InvalidNumber, InvalidOperation, ParseError

MAX_NAME = 8
MAX_RAISED = 1000
MAX_CHOSEN = 1000
MAX_BERNOULLI = 60
MAX_TEXT = 400

# The least integer above 0 with more than sixty digits.
_TOO_LONG = 10 ** 60


def is_integer(value):
    """Whether the value is an integer of at most sixty digits."""
    return is_any_integer(value) and -_TOO_LONG < value < _TOO_LONG


def is_name(value):
    """Whether the value is a name."""
    if not isinstance(value, str) or not 1 <= len(value) <= MAX_NAME:
        return False
    return all(["a" <= letter <= "z" for letter in value])


def is_fraction(value):
    """Whether the value is a fraction."""
    if not isinstance(value, tuple) or len(value) != 2:
        return False
    top, bottom = value
    return is_any_integer(top) and is_any_integer(bottom) and bottom >= 1 and gcd(top, bottom) == 1


def is_number(value):
    """Whether the value is a number."""
    return is_integer(value) or is_fraction(value)


def is_within(value, low, high):
    """Whether the value is an integer from low to high."""
    return is_integer(value) and low <= value <= high


def need_within(value, low, high):
    """Refuses a value that is no integer from low to high."""
    if not is_within(value, low, high):
        raise InvalidNumber(value)


def need_number(value):
    """Refuses a value that is no number."""
    if not is_number(value):
        raise InvalidNumber(value)


def fraction(top, bottom):
    """The fraction that is the quotient of two integers of any length."""
    if not is_any_integer(top):
        raise InvalidNumber(top)
    if not is_any_integer(bottom) or bottom == 0:
        raise InvalidNumber(bottom)
    return reduced(top, bottom)


def added(one, other):
    """The sum of two numbers."""
    need_number(one)
    need_number(other)
    return pair_sum(as_pair(one), as_pair(other))


def less(one, other):
    """The difference of two numbers."""
    need_number(one)
    need_number(other)
    return pair_less(as_pair(one), as_pair(other))


def multiplied(one, other):
    """The product of two numbers."""
    need_number(one)
    need_number(other)
    return pair_product(as_pair(one), as_pair(other))


def divided(one, other):
    """The quotient of two numbers."""
    need_number(one)
    need_number(other)
    divisor = as_pair(other)
    if divisor[0] == 0:
        raise InvalidOperation("no number is divided by 0")
    return pair_quotient(as_pair(one), divisor)


def compared(one, other):
    """-1, 0 or 1, as the first number is below, equal to or above the second one."""
    need_number(one)
    need_number(other)
    top, bottom = as_pair(one)
    other_top, other_bottom = as_pair(other)
    left = top * other_bottom
    right = other_top * bottom
    if left == right:
        return 0
    return -1 if left < right else 1


def power_of(number, many):
    """The power of a number with an integer as its exponent."""
    need_number(number)
    need_within(many, -MAX_RAISED, MAX_RAISED)
    pair = as_pair(number)
    if many >= 0:
        return pair_power(pair, many)
    if pair[0] == 0:
        raise InvalidOperation("0 has no power with an exponent below 0")
    return pair_power(reduced(pair[1], pair[0]), -many)


def floor_of(number):
    """The greatest integer that is not above the number."""
    need_number(number)
    top, bottom = as_pair(number)
    return top // bottom


def factorial(number):
    """The product of the integers from 1 to the number."""
    need_within(number, 0, MAX_CHOSEN)
    found = 1
    for factor in range(2, number + 1):
        found = found * factor
    return found


def binomial(top, low):
    """In how many ways so many of so many things can be chosen."""
    need_within(top, 0, MAX_CHOSEN)
    need_within(low, 0, MAX_CHOSEN)
    return comb(top, low)


def odd_product(number):
    """The product of the odd integers from 1 to an odd number."""
    need_within(number, -1, MAX_CHOSEN - 1)
    if number % 2 == 0:
        raise InvalidNumber(number)
    found = 1
    for factor in range(3, number + 1, 2):
        found = found * factor
    return found


def bernoulli(number):
    """The Bernoulli number with this index."""
    need_within(number, 0, MAX_BERNOULLI)
    found = []
    for _ in range(number + 1):
        found.append(_next_bernoulli(found))
    return found[number]


def _next_bernoulli(known):
    """The Bernoulli number that follows the known ones, by the sum that is 0."""
    index = len(known)
    if index == 0:
        return (1, 1)
    rows = [(comb(index + 1, k) * top, bottom) for k, (top, bottom) in enumerate(known)]
    top, bottom = pair_total(rows)
    return reduced(-top, bottom * (index + 1))


def number_text(number):
    """The text of a number."""
    need_number(number)
    return pair_text(as_pair(number))


def number_of_text(text):
    """The fraction that has a text."""
    found = None
    if isinstance(text, str) and len(text) <= MAX_TEXT:
        found = pair_of_text(text)
    if found is None:
        raise ParseError(0)
    return found
