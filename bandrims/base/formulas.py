"""Formulas: polynomials in up to eight letters, with exact numbers."""

from bandrims.base.numbers import is_integer, is_number, is_within, need_number, need_within
from bandrims.base.pairs import as_pair
from bandrims.base.terms import (
    are_equal_exchanged, exchanged_terms, fitted_sums, fixed_terms, mean_terms, power_of_terms,
    product_of_terms, scaled_terms, sum_of_terms, tidy_terms, value_of_terms)
from bandrims.base.texts import terms_of_text, text_of_terms
from bandrims.errors import InvalidFormula, InvalidOperation, ParseError, TooMany

MAX_LETTERS = 8
MAX_DEGREE = 60
MAX_TERMS = 2000
MAX_TEXT = 4000


class Formula:
    """A polynomial in the letters x0, x1, ..; it never changes."""

    def __init__(self, letters, terms):
        need_within(letters, 1, MAX_LETTERS)
        if not _are_terms(letters, terms):
            raise InvalidFormula("the terms are no dict, within the bounds, from exponents to numbers")
        self._letters = letters
        self._terms = tidy_terms({row: as_pair(terms[row]) for row in terms})

    @classmethod
    def letter(cls, letters, place):
        """One of so many letters."""
        need_within(letters, 1, MAX_LETTERS)
        need_within(place, 0, letters - 1)
        return cls(letters, {(0,) * place + (1,) + (0,) * (letters - place - 1): 1})

    @property
    def letters(self):
        """The number of letters."""
        return self._letters

    @property
    def terms(self):
        """The dict from the exponents of the terms to their fractions."""
        return {row: self._terms[row] for row in self._terms}

    @property
    def degree(self):
        """The greatest degree of a term, -1 without terms."""
        return max([sum(row) for row in self._terms], default=-1)

    def plus(self, other):
        """The sum of both."""
        _need_fellow(self, other)
        return formula_of_terms(self._letters, sum_of_terms(self._terms, other._terms))

    def minus(self, other):
        """The difference of both."""
        _need_fellow(self, other)
        opposite = scaled_terms(other._terms, (-1, 1))
        return formula_of_terms(self._letters, sum_of_terms(self._terms, opposite))

    def times(self, other):
        """The product of both."""
        _need_fellow(self, other)
        if self.degree + other.degree > MAX_DEGREE:
            raise TooMany(MAX_DEGREE)
        return formula_of_terms(self._letters, product_of_terms(self._terms, other._terms))

    def scaled(self, number):
        """So many times the formula."""
        need_number(number)
        return formula_of_terms(self._letters, scaled_terms(self._terms, as_pair(number)))

    def power(self, many):
        """The power with this exponent."""
        need_within(many, 0, MAX_DEGREE)
        if self.degree * many > MAX_DEGREE:
            raise TooMany(MAX_DEGREE)
        return formula_of_terms(self._letters, power_of_terms(self._letters, self._terms, many))

    def at(self, values):
        """The value at these numbers, one for each letter."""
        if not _is_row(self._letters, values) or not all([is_number(value) for value in values]):
            raise InvalidOperation("the values are no tuple of one number for each letter")
        return value_of_terms(self._terms, [as_pair(value) for value in values])

    def part(self, degree):
        """The sum of the terms of this degree."""
        need_within(degree, 0, MAX_DEGREE)
        kept = {row: self._terms[row] for row in self._terms if sum(row) == degree}
        return formula_of_terms(self._letters, kept)

    def coefficient(self, exponents):
        """The number of the term with these exponents."""
        right = _is_row(self._letters, exponents)
        if not right or not all([is_within(exponent, 0, MAX_DEGREE) for exponent in exponents]):
            raise InvalidOperation("the exponents are no tuple of one exponent for each letter")
        return self._terms.get(exponents, (0, 1))

    def exchanged(self, order):
        """The formula with the letter order[i] in the place of each letter i."""
        right = _is_row(self._letters, order) and all([is_integer(place) for place in order])
        if not right or sorted(order) != list(range(self._letters)):
            raise InvalidOperation("the order does not have the index of each letter once")
        return formula_of_terms(self._letters, exchanged_terms(self._terms, order))

    def fixed(self, place, number):
        """The formula with a number in the place of a letter."""
        need_within(place, 0, self._letters - 1)
        need_number(number)
        return formula_of_terms(self._letters, fixed_terms(self._terms, place, as_pair(number)))

    def __eq__(self, other):
        return isinstance(other, Formula) and self._letters == other._letters and self._terms == other._terms

    def __len__(self):
        return len(self._terms)

    def __bool__(self):
        return bool(self._terms)

    def __str__(self):
        return str(text_of_terms(self._terms))


def formula_of_terms(letters, terms):
    """The formula with these tidy terms, however many there are."""
    made = Formula(letters, {})
    made._terms = terms
    return made


def need_formula(formula):
    """Refuses what is no formula."""
    if not isinstance(formula, Formula):
        raise InvalidFormula("this is no formula")


def _need_fellow(formula, other):
    """Refuses what is no formula with as many letters."""
    need_formula(other)
    if other.letters != formula.letters:
        raise InvalidOperation("the formulas have unlike numbers of letters")


def _is_row(letters, value):
    """Whether the value is a tuple with one item for each letter."""
    return isinstance(value, tuple) and len(value) == letters


def _are_terms(letters, value):
    """Whether the value is a dict of terms in so many letters."""
    if not isinstance(value, dict) or len(value) > MAX_TERMS:
        return False
    if not all([is_number(number) for number in value.values()]):
        return False
    return all([_are_exponents(letters, row) for row in value])


def _are_exponents(letters, value):
    """Whether the value is the exponents of a term in so many letters."""
    if not _is_row(letters, value):
        return False
    return all([is_within(k, 0, MAX_DEGREE) for k in value]) and sum(value) <= MAX_DEGREE


def is_symmetric(formula):
    """Whether each order of the letters leaves the formula as it is."""
    need_formula(formula)
    letters = formula.letters
    terms = formula.terms
    # Exchanges of letters that stand side by side make all orders.
    return all([are_equal_exchanged(terms, _side_by_side(letters, k)) for k in range(letters - 1)])


def _side_by_side(letters, place):
    """The order that exchanges the letter with this index and the next one."""
    row = list(range(letters))
    row[place] = place + 1
    row[place + 1] = place
    return tuple(row)


def mean_of(formula):
    """The mean of what all orders of the letters make of the formula."""
    need_formula(formula)
    return formula_of_terms(formula.letters, mean_terms(formula.terms))


def formula_of_text(letters, text):
    """The formula with so many letters that has this text."""
    need_within(letters, 1, MAX_LETTERS)
    if not isinstance(text, str):
        raise ParseError(None)
    found = None
    if len(text) <= MAX_TEXT:
        found = {} if text == "0" else terms_of_text(letters, text)
    if found is None or not _are_terms(letters, found):
        raise ParseError(0)
    return Formula(letters, found)


def fitted(values):
    """The formula in one letter, of the least degree, that has these values at these integers."""
    if not isinstance(values, dict) or not 1 <= len(values) <= MAX_DEGREE + 1:
        raise InvalidOperation("the values are no dict of 1 to 61 entries")
    if not all([is_integer(spot) and is_number(values[spot]) for spot in values]):
        raise InvalidOperation("the values do not lead from integers to numbers")
    spots = sorted(values)
    sums = fitted_sums(spots, [as_pair(values[spot]) for spot in spots])
    return formula_of_terms(1, tidy_terms(sums))
