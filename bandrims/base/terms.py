"""Sums of terms: dicts from tuples of exponents to fractions that are known to be right.

Dicts of terms have ascending keys and no fraction that is 0. Nothing here checks what it is passed.
"""

from math import lcm

from bandrims.base.pairs import loose_sum, pair_power, pair_product, pair_quotient, pair_total, reduced


def tidy_terms(sums):
    """The terms of which the dict has the numbers, perhaps 0 and not in lowest terms."""
    return {row: reduced(sums[row][0], sums[row][1]) for row in sorted(sums) if sums[row][0] != 0}


def add_at(sums, row, pair):
    """Adds a pair to what the dict has at a tuple of exponents."""
    sums[row] = loose_sum(sums[row], pair) if row in sums else pair


def sum_of_terms(one, other):
    """The terms of the sum of both."""
    sums = {row: one[row] for row in one}
    for row, pair in other.items():
        add_at(sums, row, pair)
    return tidy_terms(sums)


def scaled_terms(terms, pair):
    """The terms of so many times the sum."""
    return tidy_terms({row: pair_product(terms[row], pair) for row in terms})


def product_of_terms(one, other):
    """The terms of the product of both."""
    sums = {}
    for row, (top, bottom) in one.items():
        for other_row, (other_top, other_bottom) in other.items():
            exponents = tuple([low + high for low, high in zip(row, other_row)])
            add_at(sums, exponents, (top * other_top, bottom * other_bottom))
    return tidy_terms(sums)


def power_of_terms(letters, terms, many):
    """The terms of the power."""
    found = {(0,) * letters: (1, 1)}
    for _ in range(many):
        found = product_of_terms(found, terms)
    return found


def value_of_terms(terms, pairs):
    """The value at these fractions, one for each letter."""
    return pair_total([_value_of_term(row, terms[row], pairs) for row in terms])


def _value_of_term(row, pair, pairs):
    """The value of one term."""
    top, bottom = pair
    for exponent, at in zip(row, pairs):
        high, low = pair_power(at, exponent)
        top = top * high
        bottom = bottom * low
    return reduced(top, bottom)


def fixed_terms(terms, place, pair):
    """The terms with a fraction in the place of one letter."""
    sums = {}
    for row, number in terms.items():
        rest = row[:place] + (0,) + row[place + 1:]
        add_at(sums, rest, pair_product(number, pair_power(pair, row[place])))
    return tidy_terms(sums)


def exchanged_terms(terms, order):
    """The terms with the letter order[i] in the place of each letter i."""
    return tidy_terms({_exchanged_row(row, order): terms[row] for row in terms})


def _exchanged_row(row, order):
    """The exponents, each at the place of the letter that comes for its own."""
    found = [0] * len(row)
    for place, exponent in zip(order, row):
        found[place] = exponent
    return tuple(found)


def are_equal_exchanged(terms, order):
    """Whether the terms stay as they are if the letters are exchanged."""
    return all([terms.get(_exchanged_row(row, order)) == terms[row] for row in terms])


def mean_terms(terms):
    """The terms of the mean of what all orders of the letters make of the sum."""
    lots = {}
    for row, pair in terms.items():
        add_at(lots, tuple(sorted(row)), pair)
    sums = {}
    for least, (top, bottom) in lots.items():
        # Equally many orders lead a term to each arrangement of its exponents.
        rows = arrangements(least)
        for row in rows:
            sums[row] = (top, bottom * len(rows))
    return tidy_terms(sums)


def arrangements(least):
    """The list of all sequences of the items of an ascending tuple with repeats, each sequence once."""
    found = [((), least)]
    for _ in range(len(least)):
        found = [
            (begun + (left[k],), left[:k] + left[k + 1:])
            for begun, left in found
            for k in range(len(left))
            if k == 0 or left[k - 1] != left[k]
        ]
    return [begun for begun, left in found]


def fitted_sums(spots, pairs):
    """The terms, not tidy, of the formula in one letter that has these values at these integers."""
    whole = _product_row(spots)
    shares = [pair_quotient(pair, (_gaps(spots, spot), 1)) for spot, pair in zip(spots, pairs)]
    # One bottom for all numbers saves the reducing of each sum on the way.
    bottom = 1
    for share in shares:
        bottom = lcm(bottom, share[1])
    sums = [0] * len(spots)
    for spot, share in zip(spots, shares):
        factor = share[0] * (bottom // share[1])
        for k, number in enumerate(_row_without(whole, spot)):
            sums[k] = sums[k] + factor * number
    return {(k,): (top, bottom) for k, top in enumerate(sums)}


def _gaps(spots, spot):
    """The product of the differences of one of the spots and all other ones."""
    found = 1
    for other in spots:
        if other != spot:
            found = found * (spot - other)
    return found


def _product_row(spots):
    """The numbers, by ascending exponents, of the product of all x - spot."""
    found = [1]
    for spot in spots:
        found = [high - spot * low for high, low in zip([0] + found, found + [0])]
    return found


def _row_without(whole, spot):
    """The numbers, by ascending exponents, of a product of which the factor x - spot is left out."""
    found = []
    carried = 0
    for number in reversed(whole[1:]):
        carried = number + spot * carried
        found.append(carried)
    return found[::-1]


def exponents_up_to(letters, degree):
    """The ascending list of all tuples of so many exponents with a sum of at most the degree."""
    found = [()]
    for _ in range(letters):
        found = [row + (k,) for row in found for k in range(degree - sum(row) + 1)]
    return found


def value_at_whole(terms, values):
    """The value at these integers, one for each letter."""
    most = max([exponent for row in terms for exponent in row], default=0)
    powers = [_powers(value, most) for value in values]
    found = []
    for row, (top, bottom) in terms.items():
        for place, exponent in enumerate(row):
            top = top * powers[place][exponent]
        found.append((top, bottom))
    return pair_total(found)


def _powers(value, most):
    """The list of the powers of an integer with the exponents from 0 on."""
    found = [1]
    for _ in range(most):
        found.append(found[-1] * value)
    return found
