"""[19.1] to [19.3]: a desk."""

import random
import unittest

from bandrims.bands.changes import drawn_together, flipped, parted, put_in, taken_out
from bandrims.bands.codes import are_alike, mirrored, renamed, shuffled
from bandrims.bands.webs import Web
from bandrims.errors import (
    InvalidNumber, InvalidOperation, InvalidPledge, InvalidWeb, NothingToUndo, Refused, TooMany, UnknownName)
from bandrims.use import desk as module
from bandrims.use.desk import Desk, is_pledge
from tests.kinds import CROSS, LONG, RINGS, THETA, Refusing, is_short, kinds, raised, short

LOOP = Web((0, 1), (1, 0), (0, 0))
KEPT = ("beside", "a", 0, 1)
# Values that are no names, and names that are on none of the desks here.
NO_NAMES = ("", "A", "abcdefghi", "a1", "a b", None, True, 0, 1, ("a",), ["a"], {"a": 1}, (), "\n", "a\n", CROSS, LONG)
CHANGES = {"draw": drawn_together, "part": parted, "take": taken_out, "tie": put_in, "flip": flipped}


def is_a_name(value):
    """Whether the value is a name."""
    return type(value) is str and 1 <= len(value) <= 8 and all(["a" <= letter <= "z" for letter in value])


def is_a_pledge(value):
    """Whether the value is a pledge, by [19.2]."""
    if type(value) is not tuple or len(value) < 2 or type(value[0]) is not str or not is_a_name(value[1]):
        return False
    word, rest = value[0], value[2:]
    if word in ("handles", "rims", "ties", "beside"):
        return len(rest) == (2 if word == "beside" else 1) and all([is_short(one) and one >= 0 for one in rest])
    return word == "full" and rest == () or word == "alike" and len(rest) == 1 and is_a_name(rest[0])


def line(name, web):
    """The line of a web."""
    return f"{name}: " + " / ".join([" ".join(map(str, row)) for row in (web.after, web.mate, web.names)])


def holds(webs, pledge):
    """Whether a pledge holds for these webs."""
    if pledge[1] not in webs or pledge[0] == "alike" and pledge[2] not in webs:
        return False
    web = webs[pledge[1]]
    if pledge[0] == "alike":
        return are_alike(web, webs[pledge[2]])
    if pledge[0] == "beside":
        return any([(web.names[end], web.names[web.mate[end]]) == pledge[2:] for end in range(len(web.mate))])
    told = {"handles": web.handles, "rims": len(web.rims), "ties": web.size, "full": web.is_full}
    return told[pledge[0]] == (True if pledge[0] == "full" else pledge[2])


def news(before, after):
    """The news of webs in the place of others."""
    old = {line(name, web) for name, web in before.items()}
    new = {line(name, web) for name, web in after.items()}
    return tuple(sorted(old - new)), tuple(sorted(new - old))


def shown(desk):
    """All that can be seen of a desk but for what it can take back."""
    return desk.labels, desk.lines, desk.pledges, [desk.web_named(name).after for name in desk.labels]


def whole(desk):
    """All that can be seen of a desk, with all that it can take back and do again."""
    twin = desk.twin()
    found = [shown(twin), twin.changes]
    steps = 0
    while raised(twin.redo) is None:
        steps += 1
        found.append(shown(twin))
    twin.undo(many=steps)
    while raised(twin.undo) is None:
        found.append(shown(twin))
    return found


def desk_with(*names, pledges=()):
    """A desk with webs under these names."""
    desk = Desk()
    for name, web in zip(names, (THETA, CROSS, RINGS, LOOP, Web.bundle(4), Web.crossed(2))):
        desk.put(name, web)
    for pledge in pledges:
        desk.demand(pledge)
    return desk


class Model:
    """What a desk is, told by lists of all that it was."""

    def __init__(self):
        self.rows = [({}, ())]
        self.at = 0

    def webs(self):
        return self.rows[self.at][0]

    def pledges(self):
        return self.rows[self.at][1]

    def move(self, webs, pledges):
        """The news, or the error that is expected."""
        for pledge in pledges:
            if not holds(webs, pledge):
                return Refused(pledge)
        before = self.webs()
        self.rows = self.rows[:self.at + 1] + [(webs, pledges)]
        self.at += 1
        return news(before, webs)

    def jump(self, steps):
        """What comes of so many steps back or ahead."""
        if not 0 <= self.at + steps < len(self.rows):
            return NothingToUndo(abs(steps))
        before = self.webs()
        self.at += steps
        return news(before, self.webs())


class Pledges(unittest.TestCase, Refusing):
    def test_judging(self):
        self.judges_kinds(is_pledge, is_a_pledge)
        rights = [("handles", "a", 0), ("rims", "abcdefgh", 1), ("ties", "z", LONG - 1), ("full", "a"), ("alike", "a", "a"),
                  ("alike", "a", "b"), ("beside", "a", 0, 0), ("beside", "a", LONG - 1, 5)]
        wrongs = [("handles", "a"), ("handles", "a", -1), ("handles", "a", True), ("handles", "a", False), ("handles", "a", (1, 1)),
                  ("handles", "a", LONG), ("handles", "A", 1), ("handles", 1, 1), ("handles", "a", 1, 1), ("handles", "a", None),
                  ("full", "a", 1), ("full",), ("full", ""), ("full", "a", ()), ("full", None), ("alike", "a"), ("alike", "a", 1),
                  ("alike", "a", "b", "c"), ("alike", "a", "B"), ("alike", "a", ""), ("beside", "a", 0), ("beside", "a", 0, -1),
                  ("beside", "a", 0, True), ("beside", "a", False, 0), ("beside", "a", 0, 1, 2), ("beside", "", 0, 1), (), ("a",),
                  ("rims", "a", "b"), ("ties", "a", [1]), ["full", "a"], "full", ("fully", "a"), ("FULL", "a"), (1, "a", 1),
                  ("", "a"), ("", "a", 1), (("full",), "a"), ("rim", "a", 1), ("handles", ["a"], 1), (None, "a"), ({}, "a", 1)]
        for right in rights:
            self.assertIs(is_pledge(right), True)
        for wrong in wrongs:
            self.assertIs(is_pledge(wrong), False)
            desk = desk_with("a")
            self.refuses(InvalidPledge, desk.demand, wrong)
            self.refuses(InvalidOperation, desk.waive, wrong)
            self.assertIs(wrong in desk, False)

    def test_which_hold(self):
        webs = {"a": THETA, "b": CROSS, "c": shuffled(CROSS, (3, 1, 2, 0)), "d": RINGS, "e": LOOP, "f": Web.crossed(2)}
        desk = Desk()
        for name, web in webs.items():
            desk.put(name, web)
        pledges = [(word, name, number) for word in ("handles", "rims", "ties") for name in "abcdefg" for number in range(5)]
        pledges += [("full", name) for name in "abcdefg"] + [("alike", one, other) for one in "abcdg" for other in "abcdg"]
        pledges += [("beside", name, low, high) for name in "abdeg" for low in range(4) for high in range(4)]
        right = 0
        for pledge in pledges:
            self.assertTrue(is_pledge(pledge))
            if holds(webs, pledge):
                right += 1
                self.assertEqual(desk.demand(pledge), ((), ()))
                self.assertEqual(desk.waive(pledge), ((), ()))
            else:
                self.refuses(Refused, desk.demand, pledge, reason=pledge)
        self.assertGreater(right, 30)
        self.assertEqual(desk.changes, 6 + 2 * right)

    def test_both_ends(self):
        # A tie with both ends of one rim, and a tie between rims in both sequences.
        desk = desk_with("a", "b", "c")
        for right in (("beside", "a", 0, 1), ("beside", "a", 1, 0), ("beside", "b", 0, 0), ("beside", "c", 1, 1)):
            self.assertIsNone(raised(desk.demand, right))
        for wrong in (("beside", "a", 0, 0), ("beside", "c", 0, 0), ("beside", "c", 0, 2), ("beside", "a", 0, 3)):
            self.refuses(Refused, desk.demand, wrong, reason=wrong)


class Making(unittest.TestCase, Refusing):
    def test_constants(self):
        self.assertEqual((module.MAX_WEBS, module.MAX_PLEDGES), (6, 10))

    def test_bare(self):
        desk = Desk()
        self.assertEqual((desk.labels, desk.lines, desk.pledges, desk.changes, len(desk), list(desk)), ((), (), (), 0, 0, []))
        self.assertEqual(str(desk), "desk of 0 webs, 0 pledges")
        self.assertRaises(TypeError, Desk, 1)

    def test_put(self):
        desk = Desk()
        self.assertEqual(desk.put("b", CROSS), ((), (line("b", CROSS),)))
        self.assertEqual(desk.put("ab", THETA), ((), (line("ab", THETA),)))
        self.assertEqual(desk.put("a", CROSS), ((), (line("a", CROSS),)))
        self.assertEqual(desk.labels, ("a", "ab", "b"))
        self.assertEqual(desk.lines, (line("a", CROSS), line("ab", THETA), line("b", CROSS)))
        self.assertEqual(list(desk), list(desk.lines))
        self.assertEqual((str(desk), len(desk), desk.changes), ("desk of 3 webs, 0 pledges", 0, 3))
        self.assertEqual(desk.web_named("ab"), THETA)

    def test_put_errors(self):
        desk = desk_with("a", "b")
        for wrong in NO_NAMES + ("a", "b"):
            self.refuses(InvalidOperation, desk.put, wrong, CROSS)
            self.refuses(InvalidOperation, desk.put, wrong, None)
            self.refuses(InvalidOperation, desk.twice, wrong, "a")
            self.refuses(InvalidOperation, desk.twice, wrong, "z")
        for wrong in (None, 1, ((0, 1), (1, 0), (0, 0)), "web", [THETA], desk):
            self.refuses(InvalidWeb, desk.put, "c", wrong)
        for wrong in NO_NAMES + ("c", "z"):
            found = self.refuses(UnknownName, desk.twice, "c", wrong)
            self.assertIs(found.name, wrong)
        self.assertEqual(desk.changes, 2)

    def test_six_webs(self):
        desk = desk_with("a", "b", "c", "d", "e", "f")
        self.refuses(TooMany, desk.put, "g", THETA, limit=6)
        self.refuses(TooMany, desk.twice, "g", "a", limit=6)
        self.refuses(InvalidOperation, desk.put, "a", THETA)
        self.refuses(InvalidWeb, desk.put, "g", None)
        self.refuses(UnknownName, desk.twice, "g", "h", name="h")
        self.refuses(InvalidOperation, desk.twice, "f", "h")
        desk.drop("c")
        self.assertIsNone(raised(desk.put, "g", THETA))
        self.assertEqual(desk.labels, ("a", "b", "d", "e", "f", "g"))

    def test_twice(self):
        desk = desk_with("b")
        self.assertEqual(desk.twice("a", "b"), ((), (line("a", THETA),)))
        self.assertEqual((desk.web_named("a"), desk.labels), (THETA, ("a", "b")))

    def test_unknown_names(self):
        desk = desk_with("a", "b", pledges=[KEPT])
        calls = [desk.drop, desk.web_named, lambda name: desk.draw(name, None), lambda name: desk.part(name, None, None),
                 lambda name: desk.take(name, None), lambda name: desk.tie(name, None, None), lambda name: desk.flip(name, None)]
        before = whole(desk)
        for wrong in NO_NAMES + ("c", "ab", "aa"):
            for call in calls:
                found = self.refuses(UnknownName, call, wrong)
                self.assertIs(found.name, wrong)
        self.assertEqual(whole(desk), before)

    def test_values_of_every_kind(self):
        desk = desk_with("a", "b", pledges=[KEPT])
        desk.drop("b")
        desk.undo()
        before = whole(desk)
        for value in kinds():
            if type(value) is not str or value != "a":
                for call in (desk.drop, desk.web_named, lambda name: desk.draw(name, 0), lambda name: desk.part(name, 0, 2),
                             lambda name: desk.take(name, 0), lambda name: desk.tie(name, 0, 5), lambda name: desk.flip(name, 0),
                             lambda name: desk.twice("c", name)):
                    self.assertIs(self.refuses(UnknownName, call, value).name, value)
            if not is_a_name(value) or value == "a":
                self.refuses(InvalidOperation, desk.put, value, None)
                self.refuses(InvalidOperation, desk.twice, value, None)
            if not isinstance(value, Web):
                self.refuses(InvalidWeb, desk.put, "c", value)
            if not is_short(value) or not 0 <= value < 6:
                for call in (lambda end: desk.draw("a", end), lambda end: desk.part("a", end, None), lambda end: desk.part("a", 0, end),
                             lambda end: desk.take("a", end), lambda end: desk.tie("a", end, None), lambda end: desk.tie("a", 0, end),
                             lambda end: desk.flip("a", end)):
                    self.assertIs(self.refuses(InvalidNumber, call, value).given, value)
            if not is_short(value) or value < 0:
                for call in (desk.undo, desk.redo):
                    self.assertIs(self.refuses(InvalidNumber, lambda: call(many=value)).given, value)
        self.assertEqual(whole(desk), before)

    def test_changes_of_webs(self):
        source = random.Random(191)
        webs = [THETA, CROSS, RINGS, LOOP, Web.bundle(8), Web.bundle(4), Web.crossed(12), Web.crossed(2), flipped(THETA, 0)]
        kinds_found = set()
        for _ in range(600):
            web = source.choice(webs)
            word, call = source.choice(sorted(CHANGES.items()))
            many = 2 if call in (parted, put_in) else 1
            ends = [source.choice([-1, len(web.mate), True, None] + 12 * [source.randrange(len(web.mate))]) for _ in range(many)]
            desk = Desk()
            desk.put("a", web)
            desk.put("b", CROSS)
            error = raised(call, web, *ends)
            kinds_found.add((word, type(error)))
            if error is not None:
                kept = {name: getattr(error, name) for name in vars(error)}
                self.refuses(type(error), getattr(desk, word), "a", *ends, **kept)
                self.assertEqual((desk.web_named("a"), desk.changes), (web, 2))
                continue
            made = call(web, *ends)
            told = ((), ()) if made == web else ((line("a", web),), (line("a", made),))
            self.assertEqual(getattr(desk, word)("a", *ends), told)
            self.assertEqual((desk.web_named("a"), desk.web_named("b"), desk.changes), (made, CROSS, 3))
        for word in CHANGES:
            for kind in (type(None), InvalidNumber, InvalidOperation):
                self.assertIn((word, kind), kinds_found)
        self.assertIn(("part", TooMany), kinds_found)

    def test_drop(self):
        desk = desk_with("a", "b", pledges=[("full", "a")])
        self.refuses(Refused, desk.drop, "a", reason=("full", "a"))
        self.assertEqual(desk.drop("b"), ((line("b", CROSS),), ()))
        self.assertEqual(desk.labels, ("a",))


class Renaming(unittest.TestCase, Refusing):
    def test_in_a_round(self):
        desk = desk_with("a", "b", "c")
        told = news({"a": THETA, "b": CROSS, "c": RINGS}, {"b": THETA, "c": CROSS, "a": RINGS})
        self.assertEqual(desk.rename({"a": "b", "b": "c", "c": "a"}), told)
        self.assertEqual([desk.web_named(name) for name in "abc"], [RINGS, THETA, CROSS])
        self.assertEqual(desk.rename({"c": "zz", "a": "a", "b": "abcdefgh"}), news(
            {"b": THETA, "c": CROSS, "a": RINGS}, {"abcdefgh": THETA, "zz": CROSS, "a": RINGS}))
        self.assertEqual(desk.labels, ("a", "abcdefgh", "zz"))

    def test_to_the_same_names(self):
        desk = desk_with("a", "b", pledges=[KEPT, ("alike", "a", "a")])
        self.assertEqual(desk.rename({"b": "b", "a": "a"}), ((), ()))
        self.assertEqual(desk.changes, 5)
        same = Desk()
        same.put("a", CROSS)
        same.put("b", CROSS)
        # Other names, and yet nothing new.
        self.assertEqual((same.rename({"a": "b", "b": "a"}), same.changes), (((), ()), 3))

    def test_bare(self):
        desk = Desk()
        self.assertEqual((desk.rename({}), desk.changes), (((), ()), 1))
        self.refuses(InvalidOperation, desk.rename, {"a": "b"})

    def test_pledges_keep_their_names(self):
        desk = desk_with("a", "b", pledges=[("handles", "b", 1)])
        self.refuses(Refused, desk.rename, {"a": "b", "b": "a"}, reason=("handles", "b", 1))
        self.refuses(Refused, desk.rename, {"a": "a", "b": "c"}, reason=("handles", "b", 1))
        self.assertIsNone(raised(desk.rename, {"a": "c", "b": "b"}))
        self.assertEqual(desk.pledges, (("handles", "b", 1),))

    def test_errors(self):
        desk = desk_with("a", "b", pledges=[("full", "a")])
        wrongs = [{}, {"a": "b"}, {"a": "a"}, {"a": "b", "b": "b"}, {"a": "c", "b": "c"}, {"a": "b", "b": "a", "c": "d"},
                  {"a": "b", "c": "a"}, {"a": "A", "b": "b"}, {"a": "", "b": "b"}, {"a": None, "b": "b"}, {"a": 1, "b": "b"},
                  {"a": ["a"], "b": "b"}, [("a", "b"), ("b", "a")], (("a", "b"), ("b", "a")), None, "ab", ("a", "b"), 1, True,
                  {"a": "b", 1: "a"}, {("a",): "b", "b": "a"}, {"a": "abcdefghi", "b": "b"}, {0: "a", 1: "b"}, {"b": "c", None: "d"}]
        for wrong in wrongs + kinds():
            self.refuses(InvalidOperation, desk.rename, wrong)
        self.assertEqual(desk.changes, 3)

    def test_the_dict_stays(self):
        desk, names = desk_with("a", "b"), {"b": "d", "a": "c"}
        desk.rename(names)
        self.assertEqual(list(names.items()), [("b", "d"), ("a", "c")])
        names["a"] = "z"
        self.assertEqual(desk.labels, ("c", "d"))


class Demands(unittest.TestCase, Refusing):
    def test_order(self):
        pledges = [("ties", "a", 3), ("full", "a"), KEPT, ("alike", "a", "a"), ("rims", "b", 1)]
        desk = desk_with("a", "b", pledges=pledges)
        self.assertEqual(desk.pledges, tuple(pledges))
        self.assertEqual((len(desk), str(desk)), (5, "desk of 2 webs, 5 pledges"))
        # The first one in the order of demands is told.
        self.refuses(Refused, desk.drop, "a", reason=("ties", "a", 3))
        self.refuses(Refused, desk.flip, "a", 0, reason=KEPT)
        self.refuses(Refused, desk.draw, "a", 0, reason=("ties", "a", 3))
        desk.waive(("ties", "a", 3))
        self.assertEqual(desk.pledges, tuple(pledges[1:]))
        self.refuses(Refused, desk.drop, "a", reason=("full", "a"))
        self.assertEqual(desk.demand(("ties", "a", 3)), ((), ()))
        self.assertEqual(desk.pledges, tuple(pledges[1:] + pledges[:1]))
        self.refuses(Refused, desk.part, "a", 0, 2, reason=("full", "a"))
        self.refuses(Refused, desk.take, "a", 0, reason=("full", "a"))

    def test_errors(self):
        desk = desk_with("a", "b", pledges=[KEPT])
        for wrong in kinds():
            if not is_a_pledge(wrong):
                self.refuses(InvalidPledge, desk.demand, wrong)
            self.refuses(InvalidOperation, desk.waive, wrong)
        self.refuses(InvalidOperation, desk.demand, KEPT)
        self.refuses(InvalidOperation, desk.waive, ("beside", "a", 1, 0))
        self.refuses(InvalidOperation, desk.waive, ("beside", "a", False, True))
        self.refuses(InvalidPledge, desk.demand, ("beside", "a", False, True))
        self.refuses(Refused, desk.demand, ("full", "c"), reason=("full", "c"))
        self.refuses(Refused, desk.demand, ("alike", "a", "c"), reason=("alike", "a", "c"))
        self.refuses(Refused, desk.demand, ("alike", "c", "a"), reason=("alike", "c", "a"))
        self.assertEqual(desk.changes, 3)

    def test_ten_pledges(self):
        pledges = [("beside", "a", k % 3, (k + 1 + k // 3) % 3) for k in range(6)]
        pledges += [("handles", "a", 0), ("rims", "a", 3), ("ties", "a", 3), ("full", "a")]
        desk = desk_with("a", pledges=pledges)
        self.assertEqual((len(desk), len(set(desk.pledges))), (10, 10))
        # There would be more, whether they hold or not; those that are there already are told first.
        self.refuses(TooMany, desk.demand, ("alike", "a", "a"), limit=10)
        self.refuses(TooMany, desk.demand, ("handles", "a", 7), limit=10)
        self.refuses(InvalidOperation, desk.demand, ("full", "a"))
        self.refuses(InvalidPledge, desk.demand, None)
        desk.waive(("full", "a"))
        self.assertIsNone(raised(desk.demand, ("alike", "a", "a")))

    def test_kept_by_changes(self):
        # [19.3]: draw, part and flip keep handles and numbers of rims.
        source = random.Random(192)
        for _ in range(60):
            desk = desk_with("a", "b", "c", "d", "e", "f")
            for name in desk.labels:
                desk.demand(("handles", name, desk.web_named(name).handles))
            for name in "abcd":
                desk.demand(("rims", name, len(desk.web_named(name).rims)))
            for _ in range(12):
                name, word = source.choice(desk.labels), source.choice(["draw", "part", "flip"])
                many = len(desk.web_named(name).mate)
                ends = [source.randrange(many) for _ in range(2 if word == "part" else 1)]
                self.assertIn(type(raised(getattr(desk, word), name, *ends)), (type(None), InvalidOperation))

    def test_not_true(self):
        # flip does not keep each pledge on ties beside rims, and undo asks none.
        desk = desk_with("a", pledges=[KEPT])
        self.refuses(Refused, desk.flip, "a", 0, reason=KEPT)
        desk = Desk()
        desk.put("a", THETA)
        desk.flip("a", 0)
        desk.demand(("beside", "a", 2, 2))
        self.assertEqual(desk.undo(many=2), ((line("a", flipped(THETA, 0)),), (line("a", THETA),)))
        self.assertEqual((desk.pledges, desk.redo(many=2)[1]), ((), (line("a", flipped(THETA, 0)),)))
        self.assertEqual(desk.pledges, (("beside", "a", 2, 2),))


class Steps(unittest.TestCase, Refusing):
    def test_undo_and_redo(self):
        desk = desk_with("a", "b", pledges=[("ties", "a", 3)])
        desk.flip("a", 0)
        desk.waive(("ties", "a", 3))
        desk.draw("a", 0)
        seen = whole(desk)
        self.assertEqual((desk.undo(many=0), desk.redo(many=0), desk.changes), (((), ()), ((), ()), 6))
        first = desk.undo()
        self.assertEqual(first[::-1], desk.redo())
        self.assertEqual(whole(desk), seen)
        every = desk.undo(many=6)
        self.assertEqual((every[1], desk.labels, desk.pledges, desk.changes), ((), (), (), 0))
        for many in (1, 2, 7, LONG - 1):
            self.refuses(NothingToUndo, lambda: desk.undo(many=many), wanted=many)
        for many in (7, 8, LONG - 1):
            self.refuses(NothingToUndo, lambda: desk.redo(many=many), wanted=many)
        self.assertEqual(desk.redo(many=6), every[::-1])
        self.assertEqual(whole(desk), seen)
        self.refuses(NothingToUndo, desk.redo, wanted=1)
        self.refuses(NothingToUndo, lambda: desk.undo(many=7), wanted=7)

    def test_another_change(self):
        desk = desk_with("a", "b")
        desk.undo()
        # Neither steps of 0 nor what is refused are changes; a change from which nothing new comes is one.
        desk.undo(many=0)
        desk.redo(many=0)
        self.refuses(UnknownName, desk.drop, "b", name="b")
        self.refuses(InvalidNumber, desk.flip, "a", 6, given=6)
        desk.redo()
        self.assertEqual(desk.labels, ("a", "b"))
        desk.undo()
        desk.rename({"a": "a"})
        self.refuses(NothingToUndo, desk.redo, wanted=1)
        desk.undo()
        self.assertEqual((desk.changes, desk.redo(), desk.changes), (1, ((), ()), 2))

    def test_refused_changes(self):
        desk = desk_with("a", "b", pledges=[KEPT])
        desk.undo(many=0)
        desk.twice("c", "a")
        desk.undo()
        before = whole(desk)
        for call in (lambda: desk.flip("a", 0), lambda: desk.drop("a"), lambda: desk.put("a", THETA), lambda: desk.demand(KEPT),
                     lambda: desk.waive(("full", "a")), lambda: desk.rename({"a": "b", "b": "a"}), lambda: desk.undo(many=9),
                     lambda: desk.redo(many=2), lambda: desk.twice("c", "z"), lambda: desk.take("b", 0), lambda: desk.tie("a", 0, 1)):
            self.assertIsNotNone(raised(call))
            self.assertEqual(whole(desk), before)

    def test_errors(self):
        desk = desk_with("a", "b")
        desk.undo()
        for wrong in (-1, True, False, None, "1", (1, 1), [1], LONG, -LONG):
            self.refuses(InvalidNumber, lambda: desk.undo(many=wrong), given=wrong)
            self.refuses(InvalidNumber, lambda: desk.redo(many=wrong), given=wrong)
        self.assertRaises(TypeError, desk.undo, 1)
        self.assertRaises(TypeError, desk.redo, 1)
        self.assertEqual(desk.changes, 1)

    def test_equal_ends_of_news(self):
        # Back and ahead over changes that lead away and back again: nothing is new in all.
        desk = desk_with("a")
        for _ in range(4):
            desk.flip("a", 0)
        self.assertEqual((desk.undo(many=4), desk.redo(many=4)), (((), ()), ((), ())))
        desk.rename({"a": "b"})
        desk.rename({"b": "a"})
        self.assertEqual(desk.undo(many=2), ((), ()))


class Trials(unittest.TestCase, Refusing):
    def test_trials(self):
        desk = desk_with("a", "b", pledges=[KEPT])
        desk.undo()
        before = whole(desk)
        with desk.trial() as same:
            self.assertIs(same, desk)
            same.drop("b")
            same.undo(many=2)
            same.put("zz", CROSS)
            self.assertNotEqual(whole(desk), before)
        self.assertEqual(whole(desk), before)
        with self.assertRaises(KeyError):
            with desk.trial():
                desk.redo()
                desk.drop("zz")
        self.assertEqual(whole(desk), before)
        with self.assertRaises(ZeroDivisionError):
            with desk.trial():
                desk.undo(many=2)
                1 // 0
        self.assertEqual(whole(desk), before)
        self.assertEqual(desk.redo(), ((), ()))
        self.assertEqual(desk.pledges, (KEPT,))

    def test_trials_within_trials(self):
        desk = desk_with("a", "b")
        outside = whole(desk)
        with desk.trial():
            desk.flip("a", 0)
            inside = whole(desk)
            with desk.trial() as same:
                same.drop("a")
                with desk.trial():
                    desk.drop("b")
                    self.assertEqual(desk.labels, ())
                self.assertEqual(desk.labels, ("b",))
            self.assertEqual(whole(desk), inside)
            with self.assertRaises(UnknownName):
                with desk.trial():
                    desk.undo(many=3)
                    desk.drop("c")
            self.assertEqual(whole(desk), inside)
            desk.take("a", 4)
        self.assertEqual(whole(desk), outside)

    def test_entered_later(self):
        # What counts is how the desk was when the block was entered.
        desk = desk_with("a", "b")
        block = desk.trial()
        desk.drop("b")
        before = whole(desk)
        with block:
            desk.drop("a")
        self.assertEqual(whole(desk), before)
        desk.put("c", RINGS)
        before = whole(desk)
        with block as same:
            self.assertIs(same, desk)
            desk.undo(many=2)
        self.assertEqual(whole(desk), before)

    def test_changes_go_on(self):
        desk = desk_with("a", "b")
        with desk.trial():
            desk.drop("a")
        desk.twice("c", "a")
        self.assertEqual((desk.changes, desk.undo(many=3)), (3, (tuple(sorted([line("a", THETA), line("b", CROSS),
                                                                                   line("c", THETA)])), ())))
        self.assertEqual(desk.redo(many=3)[0], ())

    def test_during(self):
        desk = desk_with("a", "b", pledges=[KEPT])
        before = whole(desk)

        def call(same):
            self.assertIs(same, desk)
            same.drop("b")
            return [same.labels, same.twin()]

        found = desk.during(call)
        self.assertEqual(found[0], ("a",))
        self.assertEqual(found[1].labels, ("a",))
        self.assertEqual(whole(desk), before)
        self.refuses(Refused, desk.during, lambda same: same.drop("a"), reason=KEPT)
        self.refuses(UnknownName, desk.during, lambda same: [same.drop("b"), same.drop("b")], name="b")
        self.assertIsNone(desk.during(lambda same: None))
        self.assertEqual(desk.during(lambda same: same.during(lambda other: [other.drop("b"), other.changes]) + [same.changes]),
                         [((line("b", CROSS),), ()), 4, 3])
        self.assertEqual(whole(desk), before)


class Twins(unittest.TestCase):
    def test_twins(self):
        desk = desk_with("a", "b", pledges=[KEPT])
        desk.drop("b")
        desk.undo()
        twin = desk.twin()
        self.assertIsNot(twin, desk)
        self.assertEqual((twin == desk, whole(twin)), (True, whole(desk)))
        before = whole(desk)
        twin.undo(many=2)
        twin.put("c", RINGS)
        twin.demand(("full", "c"))
        self.assertEqual(whole(desk), before)
        after = whole(twin)
        desk.redo()
        desk.undo(many=4)
        desk.put("z", LOOP)
        self.assertEqual(whole(twin), after)
        self.assertNotEqual(twin, desk)

    def test_in_a_trial(self):
        desk = desk_with("a", "b")
        with desk.trial():
            desk.drop("a")
            twin = desk.twin()
        self.assertEqual((twin.labels, twin.changes, desk.labels, desk.changes), (("b",), 3, ("a", "b"), 2))
        with twin.trial():
            desk.drop("b")
            twin.undo(many=3)
        self.assertEqual((twin.labels, desk.labels), (("b",), ("a",)))


class Judging(unittest.TestCase, Refusing):
    def test_in(self):
        desk = desk_with("a", "b", pledges=[KEPT, ("handles", "b", 1), ("full", "a")])
        for right in list(desk.lines) + list(desk.pledges):
            self.assertIs(right in desk, True)
        for wrong in ("a", "b", "", line("a", THETA)[:-1], line("c", THETA), ("beside", "a", 1, 0), ("handles", "b", True),
                      ("beside", "a", False, True), ["full", "a"], ("full", "b"), THETA, desk):
            self.assertIs(wrong in desk, False)
        for wrong in kinds():
            self.assertIs(wrong in desk, False)
        desk.waive(KEPT)
        self.assertIs(KEPT in desk, False)
        desk.flip("a", 0)
        self.assertIs(line("a", THETA) in desk, False)

    def test_equal(self):
        one, other = desk_with("a", "b", pledges=[KEPT, ("full", "a")]), Desk()
        other.put("b", CROSS)
        other.put("a", THETA)
        other.rename({"a": "a", "b": "b"})
        self.assertFalse(one == other)
        other.demand(KEPT)
        other.demand(("full", "a"))
        self.assertTrue(one == other)
        self.assertFalse(one != other)
        # Neither the changes nor their sequence count, but that of the demands does.
        other.waive(KEPT)
        other.demand(KEPT)
        self.assertFalse(one == other)
        self.assertTrue(one != other)
        other.undo(many=2)
        self.assertTrue(one == other)
        other.twice("c", "b")
        self.assertFalse(one == other)
        mirror = Desk()
        mirror.put("a", mirrored(renamed(THETA, (1, 0, 2))))
        self.assertFalse(mirror == desk_with("a"))
        self.assertTrue(Desk() == Desk())
        for value in kinds():
            self.assertIs(one == value, False)
            self.assertIs(one != value, True)
            self.assertIs(Desk() == value, isinstance(value, Desk))

    def test_iterating(self):
        desk = desk_with("b", "a")
        found = [told for told in desk]
        self.assertEqual(found, sorted([line("b", THETA), line("a", CROSS)]))
        self.assertEqual((tuple(desk), len(list(desk)), [*desk]), (desk.lines, 2, list(desk.lines)))
        self.assertEqual([len(told) for told in desk.lines], [len(told) for told in desk])


class Walks(unittest.TestCase, Refusing):
    def one_step(self, desk, model, source):
        """One call, and what the model expects of it."""
        names = sorted(model.webs()) or ["a"]
        name, other = source.choice(names + ["zz"]), source.choice(names + ["b"])
        word = source.choice(["put", "twice", "drop", "rename", "demand", "demand", "waive", "undo", "redo"] + 2 * sorted(CHANGES))
        webs, pledges = dict(model.webs()), model.pledges()
        if word in CHANGES:
            many = 2 if word in ("part", "tie") else 1
            ends = [source.randrange(len(webs[name].mate)) for _ in range(many)] if name in webs else [0] * many
            call = lambda: getattr(desk, word)(name, *ends)
            if name not in webs:
                return call, UnknownName(name)
            error = raised(CHANGES[word], webs[name], *ends)
            return call, error or model.move({**webs, name: CHANGES[word](webs[name], *ends)}, pledges)
        if word in ("put", "twice"):
            web = source.choice([THETA, CROSS, RINGS, Web.bundle(4)])
            new = source.choice("abcdefgh")
            call = (lambda: desk.put(new, web)) if word == "put" else (lambda: desk.twice(new, name))
            if new in webs:
                return call, InvalidOperation()
            if word == "twice" and name not in webs:
                return call, UnknownName(name)
            if len(webs) == 6:
                return call, TooMany(6)
            return call, model.move({**webs, new: web if word == "put" else webs[name]}, pledges)
        if word == "drop":
            call = lambda: desk.drop(name)
            if name not in webs:
                return call, UnknownName(name)
            return call, model.move({label: webs[label] for label in webs if label != name}, pledges)
        if word == "rename":
            led = dict(zip(webs, source.sample(sorted(set(webs) | {"x", "y"}), len(webs))))
            if source.random() < 0.5:
                led = {label: label for label in webs}
            return (lambda: desk.rename(led)), model.move({led[label]: webs[label] for label in webs}, pledges)
        if word == "demand":
            pledge = source.choice([("handles", name, source.randint(0, 1)), ("rims", name, source.randint(1, 4)), ("full", name),
                                    ("ties", name, source.randint(2, 5)), ("alike", name, other), ("beside", name, 0, 1)])
            call = lambda: desk.demand(pledge)
            if pledge in pledges:
                return call, InvalidOperation()
            return call, TooMany(10) if len(pledges) == 10 else model.move(webs, pledges + (pledge,))
        if word == "waive":
            pledge = source.choice(pledges + (("full", "zz"),))
            call = lambda: desk.waive(pledge)
            if pledge not in pledges:
                return call, InvalidOperation()
            return call, model.move(webs, tuple([one for one in pledges if one != pledge]))
        many = source.choice([0, 1, 1, 2, 3, 9])
        call = (lambda: desk.undo(many=many)) if word == "undo" else (lambda: desk.redo(many=many))
        return call, model.jump(-many if word == "undo" else many)

    def check(self, desk, model, call, told):
        """The call does what the model expects."""
        if isinstance(told, Exception):
            self.refuses(type(told), call, **{name: value for name, value in vars(told).items()})
        else:
            self.assertEqual(call(), told)
        self.assertEqual(desk.labels, tuple(sorted(model.webs())))
        self.assertEqual(desk.lines, tuple([line(name, model.webs()[name]) for name in desk.labels]))
        self.assertEqual((desk.pledges, desk.changes), (model.pledges(), model.at))

    def test_long_rows_of_changes(self):
        source = random.Random(193)
        kinds_found = set()
        for _ in range(12):
            desk, model = Desk(), Model()
            for _ in range(220):
                call, told = self.one_step(desk, model, source)
                kinds_found.add(type(told))
                self.check(desk, model, call, told)
                if source.random() < 0.03:
                    self.trial(desk, model, source)
                if source.random() < 0.05:
                    desk = desk.twin()
        for kind in (tuple, InvalidOperation, UnknownName, TooMany, Refused, NothingToUndo):
            self.assertIn(kind, kinds_found)

    def trial(self, desk, model, source):
        """Some calls in a block, behind which all is as it was."""
        kept = Model()
        kept.rows, kept.at = list(model.rows), model.at
        before = whole(desk)
        with desk.trial():
            for _ in range(8):
                call, told = self.one_step(desk, kept, source)
                self.check(desk, kept, call, told)
        self.assertEqual(whole(desk), before)

    def test_many_changes(self):
        desk = desk_with("a")
        for _ in range(3000):
            desk.flip("a", 0)
        self.assertEqual((desk.changes, desk.web_named("a")), (3001, THETA))
        told = line("a", flipped(flipped(THETA, 0), 0))
        self.assertEqual((desk.undo(many=2998), desk.changes), (((line("a", THETA),), (told,)), 3))
        self.assertEqual((desk.redo(many=2998), desk.changes), (((told,), (line("a", THETA),)), 3001))
        self.assertTrue(short(desk).startswith("Desk("))
