"""Fractions (top, bottom) that are known to be right: no function here checks what it is passed."""

from math import gcd, lcm


def is_any_integer(value):
    """Whether the value is an integer of any length; True and False are none."""
    return isinstance(value, int) and not isinstance(value, bool)


def as_pair(number):
    """The fraction that a number is."""
    return number if isinstance(number, tuple) else (number, 1)


def reduced(top, bottom):
    """The fraction that is the quotient of two integers, the second one other than 0."""
    shared = gcd(top, bottom)
    if bottom < 0:
        shared = -shared
    return (top // shared, bottom // shared)


def loose_sum(one, other):
    """The sum of two pairs with bottoms above 0, perhaps with a common divisor left in it."""
    # Long sums are reduced once, at their end: this is why a divisor may stay here.
    if one[1] == other[1]:
        return (one[0] + other[0], one[1])
    bottom = lcm(one[1], other[1])
    return (one[0] * (bottom // one[1]) + other[0] * (bottom // other[1]), bottom)


def pair_sum(one, other):
    """The sum of two fractions."""
    top, bottom = loose_sum(one, other)
    return reduced(top, bottom)


def pair_total(pairs):
    """The sum of a list of fractions."""
    found = (0, 1)
    for pair in pairs:
        found = loose_sum(found, pair)
    return reduced(found[0], found[1])


def pair_less(one, other):
    """The difference of two fractions."""
    return pair_sum(one, (-other[0], other[1]))


def pair_product(one, other):
    """The product of two fractions."""
    return reduced(one[0] * other[0], one[1] * other[1])


def pair_quotient(one, other):
    """The quotient of two fractions, the second one other than 0."""
    return reduced(one[0] * other[1], one[1] * other[0])


def whole_power(base, many):
    """The power of an integer with an exponent of at least 0."""
    found = 1
    square = base
    left = many
    while left > 0:
        if left & 1:
            found = found * square
        left = left >> 1
        if left > 0:
            square = square * square
    return found


def pair_power(pair, many):
    """The power of a fraction with an exponent of at least 0; it needs no reducing."""
    return (whole_power(pair[0], many), whole_power(pair[1], many))


def pair_text(pair):
    """The text of a fraction, that of its top if the bottom is 1."""
    if pair[1] == 1:
        return f"{pair[0]}"
    return f"{pair[0]}/{pair[1]}"


def is_digits(value):
    """Whether the value is a string of digits, at least one."""
    if not isinstance(value, str) or value == "":
        return False
    return all([sign in "0123456789" for sign in value])


def pair_of_text(text):
    """The fraction that has a text, None if no fraction has it."""
    top, slash, bottom = text.partition("/")
    if slash == "":
        bottom = "1"
    if not is_digits(top.removeprefix("-")) or not is_digits(bottom) or int(bottom) == 0:
        return None
    found = reduced(int(top), int(bottom))
    # Texts like 2/4, 3/1, 007 and -0 can be read, but no fraction has them.
    if pair_text(found) != text:
        return None
    return found
