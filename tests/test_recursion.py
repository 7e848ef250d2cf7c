"""[9.1] to [9.6]: counts by a recursion over the lengths of rims."""

import itertools
import random
import unittest
from fractions import Fraction

from bandrims.errors import InvalidNumber, InvalidOperation, InvalidRims, Refused, TooMany
from bandrims.tables import recursion
from bandrims.tables.forms import count, extended_count
from bandrims.tables.recursion import count_by_rims, is_zero_count, least_sum, rim_choices, rim_sum
from tests.kinds import LONG, Refusing, is_either, kinds, raised, short
from tests.test_solutions import fraction_pair

# The pairs with a depth of at most 5 and at most six rims, and the first ones beyond.
PAIRS = [(0, 3), (0, 4), (0, 5), (0, 6), (1, 1), (1, 2), (1, 3), (1, 4), (1, 5), (2, 1), (2, 2)]
BEYOND = [(0, 7), (0, 8), (1, 6), (1, 7), (2, 3), (2, 8), (3, 1), (LONG - 1, 1)]


def is_pair(handles, many):
    """Whether both are a pair."""
    return handles >= 0 and many >= 1 and 2 * handles - 2 + many >= 1


def terms_by_words(handles, rims):
    """The terms of [9.2]: tuples of a factor and of one or two counts."""
    indices = range(len(rims))
    for i, j in itertools.combinations(indices, 2):
        rest = tuple([rims[k] for k in indices if k not in (i, j)])
        for q in range(2, rims[i] + rims[j], 2):
            p = rims[i] + rims[j] - q
            yield Fraction(p * q), [(handles, (p,) + rest)]
    for i in indices:
        rest = tuple([rims[k] for k in indices if k != i])
        for p, q in itertools.product(range(1, rims[i]), repeat=2):
            r = rims[i] - p - q
            if r < 2 or r % 2:
                continue
            factor = Fraction(p * q * r, 2)
            yield factor, [(handles - 1, (p, q) + rest)]
            for h in range(handles + 1):
                for chosen in itertools.product((True, False), repeat=len(rest)):
                    one = tuple([length for length, there in zip(rest, chosen) if there])
                    other = tuple([length for length, there in zip(rest, chosen) if not there])
                    yield factor, [(h, (p,) + one), (handles - h, (q,) + other)]


def sum_by_words(call, handles, rims):
    """The sum of all terms, divided by the sum of the lengths."""
    found = Fraction(0)
    for factor, counts in terms_by_words(handles, rims):
        if all([is_pair(h, len(c)) for h, c in counts]):
            for h, c in counts:
                factor *= call(h, c)
            found += factor
    return found / sum(rims)


KNOWN = {}


def count_by_words(handles, rims):
    """N(handles; rims), by [9.1] and [9.2]."""
    key = (handles, tuple(sorted(rims)))
    if key not in KNOWN:
        if sum(rims) % 2:
            KNOWN[key] = Fraction(0)
        elif (handles, len(rims)) == (0, 3):
            KNOWN[key] = Fraction(1)
        elif (handles, len(rims)) == (1, 1):
            KNOWN[key] = Fraction(rims[0] ** 2 - 4, 48)
        else:
            KNOWN[key] = sum_by_words(count_by_words, handles, key[1])
    return KNOWN[key]


def some_rims(most, many_each=6):
    """Pairs of handles and lengths of rims with a sum of at most so much, for all pairs."""
    source = random.Random(most)
    for handles, many in PAIRS:
        for _ in range(many_each):
            rims = [1] * many
            for _ in range(source.randint(0, most - many)):
                rims[source.randrange(many)] += 1
            yield handles, tuple(rims)


class Counts(unittest.TestCase):
    def test_beginning(self):
        for rims in itertools.product(range(1, 7), repeat=3):
            self.assertEqual(count_by_rims(0, rims), (1 - sum(rims) % 2, 1))
        for length in range(1, 41):
            told = Fraction(length ** 2 - 4, 48) if length % 2 == 0 else Fraction(0)
            self.assertEqual(count_by_rims(1, (length,)), fraction_pair(told))

    def test_counts(self):
        for handles, rims in some_rims(16):
            self.assertEqual(count_by_rims(handles, rims), fraction_pair(count_by_words(handles, rims)))

    def test_sequence(self):
        source = random.Random(51)
        for handles, rims in some_rims(20):
            other = tuple(source.sample(rims, len(rims)))
            self.assertEqual(count_by_rims(handles, other), count_by_rims(handles, rims))

    def test_zeros(self):
        for handles, many in PAIRS:
            least = 2 * (2 * handles + many - 1)
            self.assertEqual(least_sum(handles, many), least)
            for whole in range(many, min(41, least + 6)):
                for rims in {(whole - many + 1,) + (1,) * (many - 1), tuple([whole // many + (k < whole % many)
                                                                               for k in range(many)])}:
                    told = whole % 2 == 1 or whole < least
                    self.assertEqual(count_by_rims(handles, rims) == (0, 1), told)
                    self.assertIs(is_zero_count(handles, rims), told)
                    self.assertGreaterEqual(count_by_rims(handles, rims)[0], 0)

    def test_zeros_of_long_lengths(self):
        for handles, many in PAIRS:
            for last, told in ((LONG - 1, many % 2 == 0), (LONG - 2, many % 2 == 1)):
                rims = (1,) * (many - 1) + (last,)
                self.assertIs(is_zero_count(handles, rims), not told)
                self.assertEqual(count(handles, rims) == (0, 1), not told)

    def test_edges(self):
        for handles, many in PAIRS:
            rims = (41 - many,) + (1,) * (many - 1)
            self.assertEqual(sum(rims), 40)
            self.assertEqual(count_by_rims(handles, rims), count(handles, rims))
        self.assertEqual(count_by_rims(1, (2, 5, 7, 11, 15)), count(1, (2, 5, 7, 11, 15)))

    def test_one_rim_more(self):
        for handles, rims in some_rims(14):
            many = len(rims) + 1
            if (handles, many) in PAIRS:
                less = Fraction(*count_by_rims(handles, rims + (2,))) - Fraction(*extended_count(handles, rims + (0,)))
                told = (2 * handles - 2 + len(rims)) * Fraction(*count_by_rims(handles, rims))
                self.assertEqual(less, told)

    def test_not_true(self):
        self.assertEqual(count_by_rims(1, (2, 4)), (1, 2))
        apart = [factor for factor, counts in terms_by_words(0, (2, 2, 2, 2, 6)) if len(counts) == 2
                 and all([is_pair(h, len(c)) and count_by_words(h, c) for h, c in counts])]
        self.assertTrue(apart)


class Sums(unittest.TestCase, Refusing):
    def test_sums_of_counts(self):
        for handles, rims in some_rims(14):
            if (handles, len(rims)) not in ((0, 3), (1, 1)):
                self.assertEqual(rim_sum(count_by_rims, handles, rims), count_by_rims(handles, rims))
                self.assertEqual(rim_sum(count, handles, rims), count(handles, rims))

    def test_other_calls(self):
        calls = [lambda h, c: Fraction(1), lambda h, c: Fraction(0), lambda h, c: Fraction(-c[0]),
                 lambda h, c: Fraction(h + 1, 3 ** len(c)), lambda h, c: Fraction(LONG - 1),
                 lambda h, c: Fraction(c[0] * 100 + c[-1] * 10 + h, 11 ** 80)]
        for handles, rims in some_rims(13, 3):
            if (handles, len(rims)) not in ((0, 3), (1, 1)):
                for call in calls:
                    told = fraction_pair(sum_by_words(call, handles, rims))
                    self.assertEqual(rim_sum(lambda h, c: fraction_pair(call(h, c)), handles, rims), told)
                    # Integers are as right as pairs.
                    if call(0, (1, 2)).denominator == 1:
                        self.assertEqual(rim_sum(lambda h, c: call(h, c).numerator, handles, rims), told)

    def test_what_is_called(self):
        for handles, rims in some_rims(12, 3):
            if (handles, len(rims)) in ((0, 3), (1, 1)):
                continue
            told = set()

            def call(h, c):
                self.assertEqual((type(h), type(c)), (int, tuple))
                self.assertTrue(is_pair(h, len(c)))
                told.add((h, c))
                return 1
            rim_sum(call, handles, rims)
            needed = set()
            for _, counts in terms_by_words(handles, rims):
                if all([is_pair(h, len(c)) for h, c in counts]):
                    needed |= set(counts)
            self.assertEqual(told, needed)

    def test_all_pairs_below_are_of_polynomials(self):
        def call(h, c):
            self.assertIn((h, len(c)), PAIRS)
            return (1, 2)
        for handles, many in PAIRS:
            if (handles, many) not in ((0, 3), (1, 1)):
                rim_sum(call, handles, (5,) * many)

    def test_what_is_no_number(self):
        for value in kinds():
            with self.subTest(value=short(value)):
                found = raised(rim_sum, lambda h, c: value, 0, (2, 2, 2, 2))
                self.assertIs(type(found), type(None) if is_either(value) else InvalidOperation)
        for value in (True, None, (2, 4), (1, 0), LONG, "1", [1, 2], (1, 2, 3), (1, True), 0.5):
            self.refuses(InvalidOperation, rim_sum, lambda h, c: value, 1, (2, 2))

    def test_one_wrong_number_is_enough(self):
        def call(h, c):
            return True if (h, c) == (0, (1, 1, 2)) else 1
        self.refuses(InvalidOperation, rim_sum, call, 1, (2, 4))

    def test_an_error_goes_on(self):
        class Own(Exception):
            """An error of the caller."""
        for error in (Own, ValueError, StopIteration, TooMany, InvalidRims, InvalidOperation):
            made = error("a")

            def call(h, c):
                raise made
            self.assertIs(raised(rim_sum, call, 0, (2, 2, 2, 2)), made)
            self.assertIs(raised(rim_sum, call, 2, (8,)), made)

    def test_choices(self):
        for handles, rims in some_rims(16):
            if (handles, len(rims)) not in ((0, 3), (1, 1)):
                triples = [(i, j, q) for i, j in itertools.combinations(range(len(rims)), 2)
                           for q in range(2, 40, 2) if rims[i] + rims[j] - q >= 1]
                rows = [(i, p, q, r) for i, length in enumerate(rims) for p in range(1, length)
                        for q in range(1, length) for r in range(2, length, 2) if p + q + r == length]
                self.assertEqual(rim_choices(handles, rims), (len(triples), len(rows)))
        self.assertEqual(rim_choices(2, (40,)), (0, 361))


class Errors(unittest.TestCase, Refusing):
    def test_constants(self):
        self.assertEqual((recursion.MAX_SUM, recursion.MOST_DEPTH, recursion.MOST_RIMS), (40, 5, 6))

    def test_pairs(self):
        def ones(handles, rims):
            return rim_sum(lambda h, c: 1, handles, rims)
        for call in (count_by_rims, ones, is_zero_count, rim_choices):
            for handles, many in PAIRS:
                found = raised(call, handles, (2,) * many)
                if call in (ones, rim_choices) and (handles, many) in ((0, 3), (1, 1)):
                    self.refuses(Refused, call, handles, (2,) * many, reason=("beginning",))
                    self.refuses(Refused, call, handles, (41,) * many, reason=("beginning",))
                else:
                    self.assertIsNone(found)
            for handles, many in BEYOND:
                self.refuses(TooMany, call, handles, (1,) * many, limit=5)
                self.refuses(TooMany, call, handles, (41,) * many, limit=5)
            for many in (1, 2):
                self.refuses(Refused, call, 0, (41,) * many, reason=("pair",))
            self.refuses(InvalidNumber, call, -1, (0,), given=-1)
            for wrong in ((), (0,), (1,) * 9, [2, 2], (2, True), (2, (2, 1)), None, (LONG,)):
                self.refuses(InvalidRims, call, 0, wrong)
                self.refuses(InvalidRims, call, 5, wrong)

    def test_sums(self):
        for handles, many in PAIRS:
            rims = (42 - many,) + (1,) * (many - 1)
            self.assertEqual(sum(rims), 41)
            self.refuses(TooMany, count_by_rims, handles, rims, limit=40)
            self.refuses(TooMany, count_by_rims, handles, (LONG - 1,) * many, limit=40)
            if (handles, many) not in ((0, 3), (1, 1)):
                self.refuses(TooMany, rim_sum, None, handles, rims, limit=40)
                self.refuses(TooMany, rim_choices, handles, rims, limit=40)
                self.assertEqual(type(rim_choices(handles, (41 - many,) + (1,) * (many - 1))), tuple)
            self.assertIsNone(raised(is_zero_count, handles, rims))

    def test_the_call_is_not_asked_where_something_is_wrong(self):
        def call(h, c):
            self.fail("it is called")
        for handles, rims in ((-1, (2, 2)), (0, (0,)), (0, (2, 2)), (2, (2, 2, 2)), (1, (4,)), (0, (2, 2, 2)), (1, (20, 21))):
            self.assertIsNotNone(raised(rim_sum, call, handles, rims))

    def test_least_sums(self):
        for handles, many in BEYOND:
            self.refuses(TooMany, least_sum, handles, many, limit=5)
        for many in (1, 2):
            self.refuses(Refused, least_sum, 0, many, reason=("pair",))
        self.refuses(InvalidNumber, least_sum, -1, 0, given=-1)
        self.refuses(InvalidNumber, least_sum, 0, 0, given=0)
        self.refuses(InvalidNumber, least_sum, 0, 9, given=9)
