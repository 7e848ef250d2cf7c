"""[0.4], [0.5] and [0.7]: wrong values for the functions of stages 4 to 19, and the order of errors."""

import unittest

from bandrims import errors
from bandrims.bands.webs import Web
from tests.kinds import kinds, raised, short, show
from tests.specs import ALL

THEN = (errors.InvalidOperation, errors.Refused, errors.TooMany)


def wrong_values(parameter):
    """Values of every kind that the parameter does not take."""
    return [value for value in kinds() if not parameter.right(value)]


def right_values(parameter):
    """Values of every kind that the parameter takes."""
    return [value for value in kinds() if parameter.right(value)]


class WrongInputs(unittest.TestCase):
    def check(self, name, args, parameter, value):
        """The call raises the error of this parameter, which keeps the value."""
        found = raised(ALL[name][0], *args)
        with self.subTest(call=name, args=short(args), value=short(value)):
            self.assertIs(type(found), parameter.error, short(found))
            if parameter.kept is not None:
                self.assertIs(getattr(found, parameter.kept), value)

    def test_samples_are_right(self):
        for name, (call, parameters) in ALL.items():
            samples = [parameter.sample for parameter in parameters]
            with self.subTest(call=name):
                self.assertIsNone(raised(call, *samples))

    def test_one_wrong_value(self):
        for name, (_, parameters) in ALL.items():
            samples = [parameter.sample for parameter in parameters]
            for place, parameter in enumerate(parameters):
                for value in wrong_values(parameter):
                    self.check(name, samples[:place] + [value] + samples[place + 1:], parameter, value)

    def test_the_first_wrong_value_counts(self):
        for name, (_, parameters) in ALL.items():
            samples = [parameter.sample for parameter in parameters]
            for place, parameter in enumerate(parameters[:-1]):
                for later in range(place + 1, len(parameters)):
                    others = wrong_values(parameters[later])[::9]
                    for value in wrong_values(parameter)[::3]:
                        for other in others:
                            args = samples[:place] + [value] + samples[place + 1:later] + [other] + samples[later + 1:]
                            self.check(name, args, parameter, value)

    def test_wrong_values_come_ahead_of_what_is_told_with_then(self):
        # What is right for a parameter can still be refused with "then": wrong values behind it come first.
        for name, (_, parameters) in ALL.items():
            samples = [parameter.sample for parameter in parameters]
            for place, parameter in enumerate(parameters):
                for value in right_values(parameter):
                    for later in range(place + 1, len(parameters)):
                        between = parameters[place + 1:later]
                        if isinstance(value, Web) or any([one.error is not errors.InvalidNumber for one in between]):
                            continue
                        for other in wrong_values(parameters[later])[::5]:
                            if type(other) in (int, tuple):
                                continue
                            args = samples[:place] + [value] + samples[place + 1:later] + [other] + samples[later + 1:]
                            self.check(name, args, parameters[later], other)

    def test_right_values_raise_nothing_else(self):
        for name, (call, parameters) in ALL.items():
            samples = [parameter.sample for parameter in parameters]
            for place, parameter in enumerate(parameters):
                for value in right_values(parameter):
                    found = raised(call, *samples[:place], value, *samples[place + 1:])
                    with self.subTest(call=name, place=place, value=short(value)):
                        if found is not None and type(found) not in THEN:
                            later = [other.error for other in parameters[place + 1:]]
                            self.assertIn(type(found), later)

    def test_judging(self):
        for name, (call, parameters) in ALL.items():
            if parameters[-1].error is None:
                samples = [parameter.sample for parameter in parameters[:-1]]
                for value in kinds():
                    with self.subTest(call=name, value=short(value)):
                        self.assertIs(type(call(*samples, value)), bool)

    def test_names_that_judge(self):
        for name, (call, parameters) in ALL.items():
            if name.startswith(("is_", "are_", "has_")):
                samples = [parameter.sample for parameter in parameters]
                self.assertIs(type(call(*samples)), bool, name)

    def test_arguments_stay_as_they_are(self):
        for name, (call, parameters) in ALL.items():
            samples = [parameter.sample for parameter in parameters]
            before = show(samples)
            for place in range(len(parameters)):
                for value, same in zip(kinds(), kinds()):
                    raised(call, *samples[:place], value, *samples[place + 1:])
                    self.assertEqual(show(value), show(same), name)
            self.assertEqual(show(samples), before, name)

    def test_equal_calls_return_equal_results(self):
        for name, (call, parameters) in ALL.items():
            samples = [parameter.sample for parameter in parameters]
            self.assertEqual(show(call(*samples)), show(call(*samples)), name)
