"""[0.1] to [0.8]: what holds for every function of the package."""

import unittest

from bandrims import errors
from bandrims.bands.webs import Web
from bandrims.base.formulas import Formula
from tests.calls import ONE, TWO, outcome, settled
from tests.kinds import LONG, between, is_either, is_whole, kinds, raised, short, show

OWN = tuple([one for one in vars(errors).values() if isinstance(one, type)])

# For each call: what its first parameter takes, the error for other values, and, where the error
# for the second parameter is InvalidNumber, what this one takes.
FIRST = {
    "fraction": (is_whole, errors.InvalidNumber, is_whole),
    "binomial": (between(0, 1000), errors.InvalidNumber, between(0, 1000)),
    "power_of": (is_either, errors.InvalidNumber, between(-1000, 1000)),
    "Formula": (between(1, 8), errors.InvalidNumber, None),
    "Formula.letter": (between(1, 8), errors.InvalidNumber, None),
    "F.fixed": (between(0, 1), errors.InvalidNumber, is_either),
    "formula_of_text": (between(1, 8), errors.InvalidNumber, None),
}
for _name in ("added", "less", "multiplied", "divided", "compared"):
    FIRST[_name] = (is_either, errors.InvalidNumber, is_either)
for _name in ("are_lengths", "are_whole_lengths", "rim_lengths", "tie_weights"):
    FIRST[_name] = (lambda value: isinstance(value, Web), errors.InvalidWeb, None)
for _name in ("Desk.draw", "Desk.take", "Desk.flip"):
    FIRST[_name] = (lambda value: type(value) is str and value in ("a", "b"), errors.UnknownName, None)
for _name in ("Desk.put", "Desk.twice"):
    FIRST[_name] = (lambda value: type(value) is str and value == "z", errors.InvalidOperation, None)


def few():
    """Some values of each kind, for calls with two parameters."""
    found = [0, 1, -1, 2, LONG, True, False, None, "", "a", "0", "x0", (), (1,), (1, 2), (2, 4), (0, 1), (1, 1, 1)]
    found += [(1, 0), (0, 0), [], [1, 2], {}, {0: 1}, {(0, 1): 1}, {(1,): (1, 2)}]
    return found + [value for value in kinds() if isinstance(value, (errors.BandError, IndexError)) or "Web" in show(value)]


class Conventions(unittest.TestCase):
    def test_arguments_stay_as_they_are(self):
        before = settled()
        for name, call in ONE.items():
            for value, same in zip(kinds(), kinds()):
                raised(call, value)
                with self.subTest(call=name, value=short(same)):
                    self.assertEqual(show(value), show(same))
        for name, call in TWO.items():
            for one, first in zip(few(), few()):
                for other, second in zip(few(), few()):
                    raised(call, one, other)
                    self.assertEqual((show(one), show(other)), (show(first), show(second)), name)
        self.assertEqual(settled(), before)

    def test_equal_calls_return_equal_results(self):
        for name, call in ONE.items():
            for value, same in zip(kinds(), kinds()):
                with self.subTest(call=name, value=short(value)):
                    self.assertEqual(outcome(call, value), outcome(call, same))
        for call in TWO.values():
            for one, first in zip(few(), few()):
                told = [outcome(call, one, other) for other in few()]
                self.assertEqual([outcome(call, first, other) for other in few()], told)

    def test_all_errors_are_own_errors(self):
        for name, call in ONE.items():
            for value in kinds():
                with self.subTest(call=name, value=short(value)):
                    self.assertIsInstance(raised(call, value), OWN + (type(None),))
        for name, call in TWO.items():
            for one in few():
                for other in few():
                    with self.subTest(call=name, values=(short(one), short(other))):
                        self.assertIsInstance(raised(call, one, other), OWN + (type(None),))

    def test_judging_never_raises(self):
        for name, call in ONE.items():
            if name.startswith("is_") and name != "is_symmetric" or name.endswith(("__eq__", "in desk")):
                for value in kinds():
                    with self.subTest(call=name, value=short(value)):
                        self.assertIs(type(call(value)), bool)

    def test_the_first_error_counts(self):
        for name, (first, kind, _) in FIRST.items():
            for one in few():
                if first(one):
                    continue
                for other in few():
                    with self.subTest(call=name, values=(short(one), short(other))):
                        found = raised(TWO[name], one, other)
                        self.assertIs(type(found), kind)
                        if kind is errors.InvalidNumber:
                            self.assertIs(found.given, one)
                        if kind is errors.UnknownName:
                            self.assertIs(found.name, one)

    def test_the_second_error_is_told_otherwise(self):
        for name, (first, _, right) in FIRST.items():
            for other in few():
                if right is None or is_either(other) and other in (0, (0, 1)):
                    continue
                for one in filter(first, few()):
                    with self.subTest(call=name, values=(short(one), short(other))):
                        found = raised(TWO[name], one, other)
                        if not right(other):
                            self.assertIs(type(found), errors.InvalidNumber)
                            self.assertIs(found.given, other)
                        else:
                            self.assertIn(type(found), (type(None), errors.InvalidOperation))

    def test_told_with_then(self):
        full = Formula(2, {(60, 0): 1})
        for wrong, error in ((None, errors.InvalidFormula), (Formula(3, {(0, 0, 1): 1}), errors.InvalidOperation),
                             (full, errors.TooMany)):
            self.assertIs(type(raised(full.times, wrong)), error)
        self.assertIs(type(raised(full.power, 61)), errors.InvalidNumber)
        self.assertIs(type(raised(full.power, 2)), errors.TooMany)
        for one, other, error in ((None, 0, errors.InvalidNumber), (0, None, errors.InvalidNumber),
                                  (1, 0, errors.InvalidOperation)):
            self.assertIs(type(raised(TWO["divided"], one, other)), error)
        for one, other, error in ((None, -1, errors.InvalidNumber), (0, -1001, errors.InvalidNumber),
                                  (0, -1, errors.InvalidOperation)):
            self.assertIs(type(raised(TWO["power_of"], one, other)), error)
