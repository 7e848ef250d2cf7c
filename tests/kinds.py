"""Values of every kind that a caller may pass, and what tells right ones from wrong ones."""

from math import gcd

from bandrims.bands.webs import Web
from bandrims.base.formulas import Formula
from bandrims.errors import InvalidNumber, InvalidWeb, ParseError, Refused
from bandrims.nodes.pieces import Pieces
from bandrims.use.desk import Desk

THETA = Web((2, 5, 4, 1, 0, 3), (1, 0, 3, 2, 5, 4), (0, 1, 1, 2, 2, 0))
CROSS = Web((2, 3, 1, 0), (1, 0, 3, 2), (0, 0, 0, 0))
RINGS = Web((1, 2, 0, 4, 5, 3), (1, 0, 3, 2, 5, 4), (1, 0, 1, 1, 1, 2))
LONG = 10 ** 60


def nested(make, inner):
    """The inner value eight deep."""
    value = inner
    for _ in range(8):
        value = make(value)
    return value


def kinds():
    """Values of every kind, new ones at each call."""
    whole = [0, 1, -1, 2, 3, 7, 8, 9, 12, 13, 24, 60, 61, -2, 999, 1000, 1001, -1000, -1001]
    long = [LONG - 1, 1 - LONG, LONG, -LONG, 10 ** 99, 1 - 10 ** 100]
    plain = [True, False, None, "", "a", "A", "abcdefgh", "abcdefghi", "a1", "0", "1", "-1/2", "2/4", "x0", "x0 x1"]
    texts = ["~" * 4000, "7" * 400, "7" * 401, "".join([chr(code) for code in range(127)]), "True", "None", "\n"]
    tuples = [(), (0,), (1,), (1, 2), (2, 4), (0, 1), (0, 2), (1, 0), (1, -2), (3, 1), (-3, 2), (3, 1, 1), (1, 2, 3)]
    mixed = [(True, 2), (1, True), (True,), (False, True), (None, 1), ("1", "2"), ([1], 2), ((1, 2), (1, 3)), (1, "a")]
    long_tuples = [(LONG, 7), (10 ** 99, 1), (10 ** 99, LONG), (1, 1 - LONG), ((1, 2), 3), (1,) * 48, (0,) * 60]
    lists = [[], [0], [1], [1, 2], [0, 1], [(0, 1), (1, 0), (0, 0)], [[]], ["a"]]
    dicts = [{}, {0: 1}, {1: 2}, {True: 1}, {0: True}, {"a": 1}, {(0,): 1}, {(0, 0): 1}, {(0, 1): (1, 2)}, {None: 0}]
    dicts += [{(0, True): 1}, {(0, 0): None}, {0: (2, 4)}, {(0, 61): 1}, {(0, -1): 1}, {(0, 0): LONG}, {LONG: 1}, {0: []}]
    deep = [nested(lambda x: (x,), 1), nested(lambda x: [x], 1), nested(lambda x: {0: x}, 1), nested(lambda x: (x, x), ())]
    deep += [{nested(lambda x: (x,), 0): 1}, ((0, 1), (1, 0), (0, 0)), ((0, 1), (1, 0), (False, False))]
    objects = [Formula(1, {}), Formula(2, {(1, 0): 1}), Formula(8, {}), THETA, CROSS]
    objects += [Pieces(((0, (0, 1, 2)),), ()), Pieces(((0, (0, 1)), (1, ())), ((0, 1),)), Desk()]
    objects += [InvalidNumber(1), ParseError(0), Refused(("pair",)), InvalidWeb("no web")]
    return whole + long + plain + texts + tuples + mixed + long_tuples + lists + dicts + deep + objects


def is_whole(value):
    """An integer of any length."""
    return type(value) is int


def is_short(value):
    """An integer of at most sixty digits."""
    return type(value) is int and len(str(abs(value))) <= 60


def is_pair(value):
    """A fraction."""
    if type(value) is not tuple or len(value) != 2 or not all(map(is_whole, value)):
        return False
    return value[1] > 0 and gcd(*value) == 1


def is_either(value):
    """A number."""
    return is_short(value) or is_pair(value)


def between(low, high):
    """Tells integers within these bounds."""
    return lambda value: is_short(value) and low <= value <= high


def row_of(many, right):
    """Tells tuples of so many right items."""
    return lambda value: type(value) is tuple and len(value) == many and all([right(item) for item in value])


def show(value):
    """A short text of a value that does not hang on where it is in memory."""
    if isinstance(value, Formula):
        return f"Formula({value.letters}, {value.terms})"
    if isinstance(value, Web):
        return f"Web({value.after}, {value.mate}, {value.names})"
    if isinstance(value, Pieces):
        return f"Pieces({value.kinds}, {value.nodes})"
    if isinstance(value, Desk):
        return f"Desk({value.lines}, {value.pledges}, {value.changes})"
    if isinstance(value, BaseException):
        kept = [f"{name}={show(item)}" for name, item in sorted(vars(value).items())]
        return f"{type(value).__name__}({', '.join(kept)})"
    if type(value) in (tuple, list):
        return f"{type(value).__name__}[{', '.join([show(item) for item in value])}]"
    if type(value) is dict:
        return "{" + ", ".join([f"{show(key)}: {show(value[key])}" for key in value]) + "}"
    return repr(value)


def short(value):
    """The beginning of such a text."""
    return show(value)[:80]


def raised(call, *args):
    """The error that a call raises, None if it raises none."""
    try:
        call(*args)
    except Exception as error:
        return error
    return None


class Refusing:
    """What test cases of wrong inputs have in common."""

    def refuses(self, error, call, *args, **kept):
        """The call raises just this error, which keeps just this."""
        found = raised(call, *args)
        self.assertIs(type(found), error, short(found))
        for name, value in kept.items():
            self.assertIs(type(getattr(found, name)), type(value))
            self.assertEqual(getattr(found, name), value)
        return found

    def refuses_kinds(self, error, call, right, keeps=None):
        """The call raises just this error for each value that is not right, and none for the others."""
        for value in kinds():
            with self.subTest(call=call, value=short(value)):
                if right(value):
                    self.assertIsNone(raised(call, value))
                    continue
                found = raised(call, value)
                self.assertIs(type(found), error)
                if keeps is not None:
                    self.assertIs(getattr(found, keeps), value)

    def judges_kinds(self, call, right):
        """The call tells True or False for each value, whatever it is."""
        for value in kinds():
            with self.subTest(call=call, value=short(value)):
                self.assertIs(call(value), bool(right(value)))
