"""The promises [18.1] to [18.3], and what pinnedgaps.use.desk has."""

import sys
from itertools import combinations

from pinnedgaps.errors import (
    InvalidField, InvalidNumber, InvalidOperation, InvalidPledge, NothingToUndo, Refused, UnknownName)
from pinnedgaps.going.both import has_order
from pinnedgaps.twostate.fields import Field, is_tree, share
from pinnedgaps.use import desk as module
from pinnedgaps.use.desk import Desk, is_pledge
from tests.checks import Checks
from tests.exact import as_pair, exact
from tests.examples import run_examples
from tests.samples import LONG, LONG_BOTTOM, ODD_VALUES, SIXTY, SIXTY_ONE
from tests.test_fields import NO_PLACE_PAIRS, NO_TIE_TABLES
from tests.webs import (
    ALL, APART, COUPLE, FULL, KIND, LINE, LONE, LONGS, MIXED, NO_FIELDS, NO_PLACES, RING, SLACK, STILL, STRAIGHT)

EXAMPLES = """
>>> desk, kept = Desk(), ("share", "a", 0, (1, 4), (1, 3))
>>> [desk.put("a", RING), desk.demand(kept), desk.demand(("ties", "a", 4))]
[((), ('a: 1 1, 1 1, 1 1, 1 1 / 0-1 1 1 1 0, 0-3 1 1 1 0, 1-2 1 1 1 0, 2-3 1 1 1 0',)), ((), ()), ((), ())]
>>> desk.weigh("a", 0, (1, 3))
raises Refused(('share', 'a', 0, (1, 4), (1, 3)))
>>> [desk.twice("b", "a")[0], desk.untie("b", 0, 1)[1], len(desk.grow("a", (2, (1, 2)))[1]), desk.changes, str(desk), kept in desk]
[(), ('b: 1 1, 1 1, 1 1, 1 1 / 0-3 1 1 1 0, 1-2 1 1 1 0, 2-3 1 1 1 0',), 1, 6, 'desk of 2 fields, 2 pledges', True]
>>> [desk.undo(many=2)[0] == desk.twin().redo(many=2)[1], desk.labels, len(desk.undo(many=3)[0]), len(list(desk))]
[True, ('a', 'b'), 1, 1]
"""

RING_LINE = "1 1, 1 1, 1 1, 1 1 / 0-1 1 1 1 0, 0-3 1 1 1 0, 1-2 1 1 1 0, 2-3 1 1 1 0"
EVEN = ((1, 1), (1, 1))
PLEDGES = (
    ("places", "a", 4), ("ties", "a", 4), ("tree", "b"), ("order", "b"), ("share", "a", 0, (1, 4), (1, 3)),
    ("share", "b", 2, 0, 1))
NO_NAMES = ODD_VALUES + ("A", "ab1", "a b", "abcdefghi", "a-b", 0, ["a"], ("a",), {"a": 1}, RING)
NO_PLEDGES = ODD_VALUES + (
    ("places", "a"), ("places", "a", 1, 2), ("places", "a", -1), ("places", "a", True), ("places", "a", (1, 1)),
    ("places", "a", SIXTY_ONE), ("places", "a", None), ("places", "A", 1), ("places", "", 1), ("places", 0, 1),
    ("places", None, 1), ("places", "abcdefghi", 1), ["places", "a", 1], ("place", "a", 1), ("Places", "a", 1),
    ("ties", "a"), ("ties", "a", -1), ("ties", "a", 1, 1), ("ties", ("a",), 1), ("ties", ["a"], 1), ("ties", "a", False),
    ("tree",), ("tree", "a", 1), ("tree", "a", None), ("tree", "A"), ("tree", None), ("order",), ("order", "a", "b"),
    ("order", 1), ("share", "a", 0, 0), ("share", "a", 0, 0, 1, 1), ("share", "a", -1, 0, 1), ("share", "a", True, 0, 1),
    ("share", "a", (0, 1), 0, 1), ("share", "a", 0, (2, 4), 1), ("share", "a", 0, 0, (1, 0)), ("share", "a", 0, True, 1),
    ("share", "a", 0, 0, False), ("share", "a", 0, None, 1), ("share", "a", 0, 0, "1"), ("share", 0, 0, 0, 1),
    ("share", "a", SIXTY_ONE, 0, 1), ("share", "a", 0, [0], 1), ("share", "a"), ("a", "tree"), (("tree", "a"),),
    (["tree"], "a"), (None, "a"), (True, "a", 1), ({}, "a"), ("tree", {}), ("tree", RING), RING, Desk)


def made(**fields):
    """A desk with these fields."""
    desk = Desk()
    for name, field in fields.items():
        desk.put(name, field)
    return desk


def told(desk):
    """All that a desk tells of itself."""
    return (desk.labels, desk.lines, desk.pledges, desk.changes, str(desk), len(desk), list(desk),
            [desk.field_named(name) for name in desk.labels])


def history(desk):
    """All that a desk tells of itself, at each point that it can be taken to."""
    twin = desk.twin()
    twin.undo(many=twin.changes)
    found = [told(twin)]
    while True:
        try:
            twin.redo()
        except NothingToUndo:
            return found
        found.append(told(twin))


def pair_text(weight):
    top, bottom = weight
    return str(top) if bottom == 1 else f"{top}/{bottom}"


def line_of(name, field):
    places = ", ".join(" ".join(map(pair_text, weights)) for weights in field.places)
    ties = ", ".join(f"{i}-{j} " + " ".join(pair_text(table[a][b]) for a in (0, 1) for b in (0, 1))
                     for (i, j), table in field.ties.items())
    return f"{name}: {places} / {ties or '-'}"


class DeskChecks(Checks):
    def unchanged(self, desk, error, call, *arguments):
        """The call raises this error, and leaves the desk as it is, with all changes; the error is returned."""
        before = (told(desk), history(desk))
        found = self.raised(error, call, *arguments)
        self.assertEqual((told(desk), history(desk)), before)
        return found

    def breaks(self, desk, pledge, call, *arguments):
        self.assertEqual(self.unchanged(desk, Refused, call, *arguments).reason, pledge)

    def each_unchanged(self, desk, error, values, call):
        before = (told(desk), history(desk))
        self.each_raises(error, values, call)
        self.assertEqual((told(desk), history(desk)), before)

    def each_unknown(self, values, call):
        for value in values:
            with self.subTest(value=repr(value)[:80]):
                self.assertIs(self.raised(UnknownName, call, value).name, value)


class ExamplesTest(DeskChecks):
    def test_examples(self):
        run_examples(self, ["pinnedgaps.use.desk"], EXAMPLES)

    def test_constants(self):
        self.assertEqual((module.MAX_FIELDS, module.MAX_PLEDGES, module.MAX_PLACES), (6, 10, 6))

    def test_a_bare_desk(self):
        desk = Desk()
        self.assertEqual(told(desk), ((), (), (), 0, "desk of 0 fields, 0 pledges", 0, [], []))
        self.assertEqual([desk.undo(many=0), desk.redo(many=0), desk.rename({}), desk.changes],
                         [((), ()), ((), ()), ((), ()), 1])


class PledgesTest(DeskChecks):
    def test_judged_pledges(self):
        self.each_judged(True, PLEDGES + (
            ("places", "abcdefgh", 0), ("ties", "z", SIXTY), ("share", "a", 7, (-LONG, LONG_BOTTOM), SIXTY),
            ("share", "a", 0, 1, 0), ("share", "a", SIXTY, (3, 1), 3)), is_pledge)
        self.each_judged(False, NO_PLEDGES, is_pledge)

    def test_pledges_of_all_kinds(self):
        for field in ALL:
            desk = made(a=field)
            for pledge, holds in (
                    (("places", "a", field.size), True), (("places", "a", field.size + 1), False),
                    (("places", "a", 0), False), (("ties", "a", len(field)), True), (("ties", "a", len(field) + 1), False),
                    (("tree", "a"), is_tree(field)), (("order", "a"), has_order(field))):
                self.assert_demand(desk, pledge, holds)

    def test_pledges_on_shares(self):
        for field in (RING, MIXED, LINE, STILL, SLACK, FULL, LONGS):
            desk = made(a=field)
            own = share(field, 0, {})
            little = exact((1, 10 ** 70))
            below, above = as_pair(exact(own) - little), as_pair(exact(own) + little)
            for low, high, holds in ((own, own, True), (below, above, True), (below, own, True), (own, above, True),
                                     (below, below, False), (above, above, False), (above, below, False), (0, 1, True)):
                self.assert_demand(desk, ("share", "a", 0, low, high), holds)

    def assert_demand(self, desk, pledge, holds):
        if holds:
            self.assertEqual(desk.demand(pledge), ((), ()))
            self.assertEqual([desk.pledges, pledge in desk, len(desk)], [(pledge,), True, 1])
            self.assertEqual([desk.waive(pledge), desk.pledges], [((), ()), ()])
        else:
            self.breaks(desk, pledge, desk.demand, pledge)

    def test_fields_and_places_that_are_not_there(self):
        desk = made(a=RING)
        for pledge in (("places", "b", 4), ("ties", "b", 0), ("tree", "b"), ("order", "ab"), ("share", "b", 0, 0, 1),
                       ("share", "a", 4, 0, 1), ("share", "a", SIXTY, 0, 1), ("places", "b", 0)):
            self.breaks(desk, pledge, desk.demand, pledge)

    def test_equal_numbers_make_other_pledges(self):
        desk = made(a=RING)
        for pledge in (("share", "a", 0, 0, 2), ("share", "a", 0, 0, (2, 1)), ("share", "a", 0, (0, 1), 2)):
            desk.demand(pledge)
        self.assertEqual(len(desk), 3)
        self.raised(InvalidOperation, desk.demand, ("share", "a", 0, 0, (2, 1)))
        desk.waive(("share", "a", 0, 0, (2, 1)))
        self.assertEqual(desk.pledges, (("share", "a", 0, 0, 2), ("share", "a", 0, (0, 1), 2)))

    def test_ten_pledges(self):
        desk = made(a=RING)
        pledges = tuple(("share", "a", 0, 0, number) for number in range(1, 11))
        for pledge in pledges[::-1]:
            desk.demand(pledge)
        self.assertEqual([desk.pledges, str(desk)], [pledges[::-1], "desk of 1 fields, 10 pledges"])
        for pledge in (("tree", "a"), ("share", "a", 0, 0, 11)):
            self.assertEqual(self.unchanged(desk, module.TooMany, desk.demand, pledge).limit, 10)
        self.unchanged(desk, InvalidOperation, desk.demand, pledges[3])
        desk.waive(pledges[3])
        self.breaks(desk, ("tree", "a"), desk.demand, ("tree", "a"))
        desk.demand(("ties", "a", 4))
        self.assertEqual(len(desk), 10)

    def test_wrong_pledges(self):
        desk = made(a=RING)
        desk.demand(("places", "a", 4))
        self.each_unchanged(desk, InvalidPledge, NO_PLEDGES, desk.demand)
        self.each_unchanged(desk, InvalidOperation, NO_PLEDGES + (
            ("places", "a", 5), ("ties", "a", 4), ["places", "a", 4]), desk.waive)
        self.unchanged(desk, InvalidOperation, desk.demand, ("places", "a", 4))

    def test_true_is_not_1(self):
        desk = made(a=LONE)
        desk.demand(("places", "a", 1))
        desk.demand(("share", "a", 0, 0, 1))
        self.each_judged(False, (("places", "a", True), ("share", "a", False, 0, 1), ("share", "a", 0, False, 1),
                                 ("share", "a", 0, 0, True)), lambda value: value in desk)
        self.raised(InvalidOperation, desk.waive, ("places", "a", True))
        self.raised(InvalidPledge, desk.demand, ("places", "a", True))


class PutTest(DeskChecks):
    def test_lines(self):
        for field in ALL:
            if field is not LONGS:
                desk = Desk()
                self.assertEqual(desk.put("abcdefgh", field), ((), (line_of("abcdefgh", field),)))
                self.assertEqual([desk.lines, desk.labels], [(line_of("abcdefgh", field),), ("abcdefgh",)])
                self.assertEqual(desk.field_named("abcdefgh"), field)
        self.assertEqual(made(a=Field(((1, 2), (1, (3, 2))), {(0, 1): ((2, 1), (1, 3))})).lines,
                         ("a: 1 2, 1 3/2 / 0-1 2 1 1 3",))
        self.assertEqual([made(a=LONE).lines, made(b=STILL).lines], [("a: 1/2 3 / -",), ("b: 2 0 / -",)])

    def test_fields_with_very_long_weights(self):
        field = Field(((1, (7 ** 9000, 2 ** 9000)), (1, (10 ** 6000, 1))), {})
        desk = made(a=field)
        self.assertEqual([desk.field_named("a"), len(desk.lines)], [field, 1])
        sys.set_int_max_str_digits(0)
        try:
            self.assertEqual(desk.lines, (line_of("a", field),))
        finally:
            sys.set_int_max_str_digits(4300)

    def test_lines_are_ascending_by_names(self):
        desk = made(ab=LINE, b=RING, a=LONE)
        self.assertEqual(desk.labels, ("a", "ab", "b"))
        self.assertEqual(desk.lines, (line_of("a", LONE), line_of("ab", LINE), line_of("b", RING)))
        self.assertEqual(list(desk), list(desk.lines))

    def test_six_fields(self):
        desk = made(a=RING, b=LINE, c=RING, d=LONE, e=MIXED, f=FULL)
        self.assertEqual([str(desk), desk.changes], ["desk of 6 fields, 0 pledges", 6])
        for call, other in ((desk.put, RING), (desk.twice, "a")):
            self.assertEqual(self.unchanged(desk, module.TooMany, call, "g", other).limit, 6)
        self.unchanged(desk, InvalidOperation, desk.put, "a", RING)
        self.unchanged(desk, InvalidField, desk.put, "g", None)
        self.unchanged(desk, UnknownName, desk.twice, "g", "g")
        desk.drop("c")
        self.assertEqual(desk.twice("g", "f"), ((), (line_of("g", FULL),)))

    def test_twice(self):
        desk = made(a=RING)
        self.assertEqual(desk.twice("b", "a"), ((), ("b: " + RING_LINE,)))
        self.assertEqual(desk.field_named("b"), RING)
        desk.weigh("b", 0, (1, 2))
        self.assertEqual([desk.field_named("a") == RING, desk.field_named("b") == RING], [True, False])

    def test_wrong_arguments(self):
        desk = made(a=RING)
        for call in (desk.put, desk.twice):
            self.each_unchanged(desk, InvalidOperation, NO_NAMES + ("a",), lambda value, call=call: call(value, RING))
        self.each_unchanged(desk, InvalidField, NO_FIELDS, lambda value: desk.put("b", value))
        self.each_unknown(NO_NAMES + ("b", "c"), lambda value: desk.twice("b", value))
        self.refused_in_order(lambda *given: desk.twin().put(*given), ("b", RING), (("a", InvalidOperation), (None, InvalidField)))
        self.refused_in_order(lambda *given: desk.twin().twice(*given), ("b", "a"), (("a", InvalidOperation), ("c", UnknownName)))


class ChangeTest(DeskChecks):
    def test_weigh(self):
        desk = made(a=RING, b=LINE)
        self.assertEqual(desk.weigh("a", 3, ((1, 2), 0)),
                         (("a: " + RING_LINE,), ("a: 1 1, 1 1, 1 1, 1/2 0" + RING_LINE[18:],)))
        self.assertEqual(desk.field_named("a"), Field(RING.places[:3] + (((1, 2), 0),), RING.ties))
        self.assertEqual(desk.field_named("b"), LINE)
        self.assertEqual(desk.weigh("a", 3, ((1, 2), (0, 1))), ((), ()))
        self.assertEqual(desk.changes, 4)

    def test_wrong_weighs(self):
        desk = made(a=RING)
        self.each_unknown(NO_NAMES + ("b",), lambda value: desk.weigh(value, 0, (1, 1)))
        self.each_refused_number(NO_PLACES + (4,), lambda value: desk.weigh("a", value, (1, 1)))
        self.each_unchanged(desk, InvalidField, NO_PLACE_PAIRS, lambda value: desk.weigh("a", 0, value))
        self.refused_in_order(lambda *given: desk.twin().weigh(*given), ("a", 0, (1, 1)), (
            ("b", UnknownName), (4, InvalidNumber), ((0, 1), InvalidField)))

    def test_grow(self):
        desk = made(a=LINE)
        self.assertEqual(desk.grow("a", (2, (1, 2))), (
            (line_of("a", LINE),), ("a: 1 1, 1 2, 1 1, 2 1/2 / 0-1 1 2 1 1, 1-2 1 1 1 3",)))
        self.assertEqual(desk.field_named("a"), Field(LINE.places + ((2, (1, 2)),), LINE.ties))
        desk.grow("a", (1, 0))
        desk.grow("a", (1, 0))
        self.assertEqual(desk.field_named("a").size, 6)
        self.assertEqual(self.unchanged(desk, module.TooMany, desk.grow, "a", (1, 1)).limit, 6)
        self.unchanged(desk, InvalidField, desk.grow, "a", (0, 1))

    def test_wrong_grows(self):
        desk = made(a=RING)
        self.each_unknown(NO_NAMES + ("b",), lambda value: desk.grow(value, (1, 1)))
        self.each_unchanged(desk, InvalidField, NO_PLACE_PAIRS, lambda value: desk.grow("a", value))
        self.refused_in_order(lambda *given: desk.twin().grow(*given), ("a", (1, 1)), (("b", UnknownName), ((0, 1), InvalidField)))

    def test_tie(self):
        desk = made(a=RING)
        self.assertEqual(desk.tie("a", 0, 2, ((1, 2), (3, 0))), (("a: " + RING_LINE,), (
            "a: 1 1, 1 1, 1 1, 1 1 / 0-1 1 1 1 0, 0-2 1 2 3 0, 0-3 1 1 1 0, 1-2 1 1 1 0, 2-3 1 1 1 0",)))
        desk.tie("a", 0, 1, ((1, 1), (1, (1, 2))))
        self.assertEqual(desk.field_named("a").ties[(0, 1)], (((1, 1), (1, 1)), ((1, 1), (1, 2))))
        self.assertEqual(list(desk.field_named("a").ties), [(0, 1), (0, 2), (0, 3), (1, 2), (2, 3)])

    def test_untie(self):
        desk = made(a=RING)
        self.assertEqual(desk.untie("a", 1, 2)[1], ("a: 1 1, 1 1, 1 1, 1 1 / 0-1 1 1 1 0, 0-3 1 1 1 0, 2-3 1 1 1 0",))
        self.unchanged(desk, InvalidOperation, desk.untie, "a", 1, 2)
        self.unchanged(desk, InvalidOperation, desk.untie, "a", 0, 2)
        for tie in ((0, 1), (0, 3), (2, 3)):
            desk.untie("a", *tie)
        self.assertEqual(desk.lines, ("a: 1 1, 1 1, 1 1, 1 1 / -",))

    def test_wrong_ties(self):
        desk = made(a=RING)
        calls = (lambda *arguments: desk.tie(*arguments, EVEN), desk.untie)
        for call in calls:
            self.each_unknown(NO_NAMES + ("b",), lambda value, call=call: call(value, 0, 1))
            self.each_refused_number(NO_PLACES + (4,), lambda value, call=call: call("a", value, 1))
            self.each_refused_number(NO_PLACES + (0, 1, 4), lambda value, call=call: call("a", 1, value))
            self.each_refused_number((0, 1, 2, 3, 4), lambda value, call=call: call("a", 3, value))
        self.each_unchanged(desk, InvalidField, NO_TIE_TABLES, lambda value: desk.tie("a", 0, 1, value))
        self.refused_in_order(lambda *given: desk.twin().tie(*given), ("a", 0, 1, EVEN), (
            ("b", UnknownName), (4, InvalidNumber), (0, InvalidNumber), (((1, 1), (0, 1)), InvalidField)))
        self.refused_in_order(lambda *given: desk.twin().untie(*given), ("a", 0, 1), (
            ("b", UnknownName), (4, InvalidNumber), (0, InvalidNumber)))

    def test_drop(self):
        desk = made(a=RING, b=LINE)
        self.assertEqual([desk.drop("a"), desk.labels], [(("a: " + RING_LINE,), ()), ("b",)])
        self.assertEqual([desk.drop("b"), desk.lines, desk.changes], [((line_of("b", LINE),), ()), (), 4])
        self.each_unknown(NO_NAMES + ("b",), desk.drop)

    def test_rename(self):
        desk = made(a=RING, b=LINE, c=LONE)
        self.assertEqual(desk.rename({"a": "b", "c": "c", "b": "a"}), (
            ("a: " + RING_LINE, line_of("b", LINE)), (line_of("a", LINE), "b: " + RING_LINE)))
        self.assertEqual([desk.field_named(name) for name in "abc"], [LINE, RING, LONE])
        self.assertEqual(desk.rename({"a": "a", "b": "b", "c": "c"}), ((), ()))
        self.assertEqual(desk.rename({"a": "z", "b": "b", "c": "c"}), ((line_of("a", LINE),), (line_of("z", LINE),)))
        self.assertEqual([desk.labels, desk.changes], [("b", "c", "z"), 6])

    def test_wrong_renames(self):
        desk = made(a=RING, b=LINE)
        self.each_unchanged(desk, InvalidOperation, ODD_VALUES + (
            {"a": "b"}, {"a": "c", "b": "c"}, {"a": "x", "b": "y", "c": "z"}, {"a": "x", "c": "y"}, {"a": "x", "b": "B"},
            {"a": "x", "b": ""}, {"a": "x", "b": None}, {"a": "x", "b": ["y"]}, {"a": "x", 1: "y"}, {"a": "x", ("b",): "y"},
            {"a": "x", None: "y"}, (("a", "x"), ("b", "y")), ("a", "b"), ["a", "b"], "ab", RING, {"a": 1, "b": 2},
            {"a": "x", "b": {}}, {"a": RING, "b": "y"}), desk.rename)
        self.each_unchanged(Desk(), InvalidOperation, ({"a": "b"}, (), [], None), Desk().rename)

    def test_fields_are_told_by_their_names(self):
        desk = made(a=RING)
        self.assertEqual(desk.field_named("a"), RING)
        self.each_unknown(NO_NAMES + ("b", "aa"), desk.field_named)


class BrokenTest(DeskChecks):
    def kept(self):
        """A desk with pledges of all kinds."""
        desk = made(a=RING, b=KIND)
        for pledge in PLEDGES:
            desk.demand(pledge)
        return desk

    def test_changes_that_break_a_pledge(self):
        desk = self.kept()
        for pledge, call, arguments in (
                (("share", "a", 0, (1, 4), (1, 3)), desk.weigh, ("a", 0, (1, 3))),
                (("places", "a", 4), desk.grow, ("a", (1, 1))), (("ties", "a", 4), desk.tie, ("a", 0, 2, EVEN)),
                (("ties", "a", 4), desk.untie, ("a", 0, 1)), (("tree", "b"), desk.untie, ("b", 1, 2)),
                (("tree", "b"), desk.grow, ("b", (1, 1))), (("order", "b"), desk.tie, ("b", 0, 1, ((1, 1), (1, 0)))),
                (("tree", "b"), desk.tie, ("b", 0, 2, ((1, 1), (1, 0)))), (("places", "a", 4), desk.drop, ("a",)),
                (("tree", "b"), desk.drop, ("b",)), (("places", "a", 4), desk.rename, ({"a": "b", "b": "a"},)),
                (("places", "a", 4), desk.rename, ({"a": "c", "b": "b"},)), (("tree", "b"), desk.rename, ({"a": "a", "b": "c"},)),
                (("order", "c"), desk.demand, (("order", "c"),)), (("tree", "a"), desk.demand, (("tree", "a"),))):
            with self.subTest(call=call.__name__, arguments=repr(arguments)):
                self.breaks(desk, pledge, call, *arguments)

    def test_the_first_one_by_demands(self):
        for order in ((0, 1, 2), (2, 1, 0), (1, 2, 0)):
            pledges = [(("places", "a", 4), ("ties", "a", 4), ("share", "a", 0, (1, 4), (1, 3)))[at] for at in order]
            desk = made(a=RING)
            for pledge in pledges:
                desk.demand(pledge)
            self.breaks(desk, pledges[0], desk.drop, "a")
            desk.waive(pledges[0])
            self.breaks(desk, pledges[1], desk.drop, "a")
            desk.demand(pledges[0])
            self.breaks(desk, pledges[1], desk.drop, "a")

    def test_changes_that_break_none(self):
        desk = self.kept()
        self.assertEqual(desk.weigh("a", 0, (10, 9))[0], ("a: " + RING_LINE,))
        self.assertEqual(len(desk.tie("b", 0, 1, ((3, 1), (1, 1)))[1]), 1)
        self.assertEqual([desk.rename({"a": "a", "b": "b"}), desk.waive(PLEDGES[0])], [((), ())] * 2)
        self.assertEqual(desk.pledges, PLEDGES[1:])

    def test_own_errors_come_first(self):
        desk = self.kept()
        self.unchanged(desk, InvalidField, desk.weigh, "a", 0, (0, 3))
        self.unchanged(desk, InvalidNumber, desk.untie, "a", 0, 0)
        self.unchanged(desk, InvalidOperation, desk.untie, "a", 0, 2)
        self.unchanged(desk, InvalidOperation, desk.rename, {"a": "b", "b": "b"})
        full = made(a=FULL)
        full.demand(("places", "a", 6))
        self.unchanged(full, module.TooMany, full.grow, "a", (1, 1))

    def test_a_refused_change_leaves_what_can_be_done_again(self):
        desk = self.kept()
        desk.weigh("a", 0, (10, 9))
        desk.undo()
        self.breaks(desk, ("places", "a", 4), desk.grow, "a", (1, 1))
        self.assertEqual(len(desk.redo()[1]), 1)
        self.raised(NothingToUndo, desk.redo)

    def test_pledges_keep_their_names(self):
        desk = made(a=RING, b=RING)
        desk.demand(("ties", "a", 4))
        desk.rename({"a": "b", "b": "a"})
        self.assertEqual(desk.pledges, (("ties", "a", 4),))
        self.breaks(desk, ("ties", "a", 4), desk.rename, {"a": "c", "b": "b"})


class HistoryTest(DeskChecks):
    def steps(self, desk):
        return (
            lambda: desk.put("a", RING), lambda: desk.demand(("share", "a", 1, 0, 1)), lambda: desk.twice("b", "a"),
            lambda: desk.grow("b", (1, 2)), lambda: desk.tie("b", 0, 4, ((1, 2), (3, 4))),
            lambda: desk.untie("a", 0, 1), lambda: desk.weigh("a", 2, (5, 1)), lambda: desk.rename({"a": "b", "b": "a"}),
            lambda: desk.demand(("places", "a", 5)), lambda: desk.drop("b"), lambda: desk.waive(("share", "a", 1, 0, 1)),
            lambda: desk.rename({"a": "a"}))

    def test_undo_and_redo(self):
        desk = Desk()
        states, news = [told(desk)], []
        for step in self.steps(desk):
            news.append(step())
            states.append(told(desk))
            self.assertEqual(desk.changes, len(news))
        many = len(news)
        for at in range(many - 1, -1, -1):
            self.assertEqual(desk.undo(), news[at][::-1])
            self.assertEqual(told(desk), states[at])
        for at in range(many):
            self.assertEqual(desk.redo(), news[at])
            self.assertEqual(told(desk), states[at + 1])
        for low in range(many + 1):
            for high in range(low, many + 1):
                old, new = states[low][1], states[high][1]
                gone, came = tuple(sorted(set(old) - set(new))), tuple(sorted(set(new) - set(old)))
                desk.undo(many=desk.changes)
                desk.redo(many=low)
                self.assertEqual([desk.redo(many=high - low), told(desk)], [(gone, came), states[high]])
                self.assertEqual([desk.undo(many=high - low), told(desk)], [(came, gone), states[low]])

    def test_another_change_ends_what_can_be_done_again(self):
        desk = made(a=RING, b=LINE)
        desk.undo()
        self.assertEqual(desk.undo(many=0), ((), ()))
        self.assertEqual(desk.redo(many=1)[1], (line_of("b", LINE),))
        desk.undo()
        desk.rename({"a": "a"})
        self.assertEqual(self.unchanged(desk, NothingToUndo, desk.redo).wanted, 1)
        self.assertEqual([desk.changes, desk.redo(many=0)], [2, ((), ())])

    def test_too_few_changes(self):
        desk = made(a=RING, b=LINE)
        for many in (3, 4, SIXTY):
            self.assertEqual(self.raised(NothingToUndo, lambda: desk.undo(many=many)).wanted, many)
        desk.undo(many=2)
        self.assertEqual(self.raised(NothingToUndo, desk.undo).wanted, 1)
        for many in (3, SIXTY):
            self.assertEqual(self.raised(NothingToUndo, lambda: desk.redo(many=many)).wanted, many)
        self.assertEqual([desk.changes, len(desk.redo(many=2)[1]), desk.changes], [0, 2, 2])

    def test_wrong_numbers(self):
        desk = made(a=RING)
        wrong = ODD_VALUES + (-1, (1, 1), "1", RING)
        self.each_refused_number(wrong, lambda value: desk.undo(many=value))
        self.each_refused_number(wrong, lambda value: desk.redo(many=value))
        for call in (desk.undo, desk.redo):
            self.assertRaises(TypeError, call, 1)

    def test_pledges_come_back(self):
        desk = made(a=RING)
        desk.demand(("ties", "a", 4))
        desk.waive(("ties", "a", 4))
        desk.untie("a", 0, 1)
        desk.undo(many=2)
        self.assertEqual(desk.pledges, (("ties", "a", 4),))
        self.breaks(desk, ("ties", "a", 4), desk.untie, "a", 0, 1)
        self.assertEqual([desk.redo(many=2)[1] != (), desk.pledges], [True, ()])
        self.breaks(desk, ("ties", "a", 4), desk.demand, ("ties", "a", 4))
        desk.undo(many=3)
        self.assertEqual([desk.pledges, desk.changes], [(), 1])

    def test_many_changes(self):
        desk = made(a=RING)
        for at in range(300):
            desk.weigh("a", at % 4, (1, at))
        self.assertEqual(desk.changes, 301)
        desk.undo(many=300)
        self.assertEqual(desk.field_named("a"), RING)
        desk.redo(many=299)
        self.assertEqual(desk.field_named("a").places[2], ((1, 1), (298, 1)))


class TrialTest(DeskChecks):
    def test_trials(self):
        desk = made(a=RING, b=LINE)
        desk.undo()
        before = (told(desk), history(desk))
        with desk.trial() as same:
            self.assertIs(same, desk)
            desk.put("c", MIXED)
            desk.demand(("places", "c", 3))
            desk.drop("a")
            desk.undo()
            self.assertEqual([desk.changes, desk.labels], [3, ("a", "c")])
        self.assertEqual((told(desk), history(desk)), before)
        self.assertEqual(desk.redo()[1], (line_of("b", LINE),))

    def test_trials_that_go_back(self):
        desk = made(a=RING, b=LINE)
        before = (told(desk), history(desk))
        with desk.trial():
            desk.undo(many=2)
            desk.put("z", LONE)
        self.assertEqual((told(desk), history(desk)), before)

    def test_errors_go_on(self):
        desk = made(a=RING)
        desk.demand(("ties", "a", 4))
        before = (told(desk), history(desk))
        with self.assertRaises(Refused) as caught:
            with desk.trial():
                desk.waive(("ties", "a", 4))
                desk.demand(("places", "a", 4))
                desk.grow("a", (1, 1))
        self.assertEqual(caught.exception.reason, ("places", "a", 4))
        self.assertEqual((told(desk), history(desk)), before)
        with self.assertRaises(ZeroDivisionError):
            with desk.trial():
                desk.undo(many=2)
                raise ZeroDivisionError
        self.assertEqual((told(desk), history(desk)), before)

    def test_trials_within_trials(self):
        desk = made(a=RING)
        before = (told(desk), history(desk))
        with desk.trial():
            desk.put("b", LINE)
            inner = (told(desk), history(desk))
            with desk.trial() as same:
                self.assertIs(same, desk)
                desk.drop("a")
                desk.drop("b")
            self.assertEqual((told(desk), history(desk)), inner)
            with self.assertRaises(UnknownName):
                with desk.trial():
                    desk.drop("b")
                    desk.drop("b")
            self.assertEqual((told(desk), history(desk)), inner)
            desk.undo()
        self.assertEqual((told(desk), history(desk)), before)

    def test_one_trial_more_than_once(self):
        desk = Desk()
        trial = desk.trial()
        desk.put("a", RING)
        before = (told(desk), history(desk))
        with trial:
            desk.put("b", LINE)
            inner = (told(desk), history(desk))
            with trial:
                desk.drop("a")
            self.assertEqual((told(desk), history(desk)), inner)
        self.assertEqual((told(desk), history(desk)), before)
        with trial:
            desk.undo()
        self.assertEqual((told(desk), history(desk)), before)

    def test_blocks_that_are_left_early(self):
        desk = made(a=RING)
        for name in ("b", "c"):
            with desk.trial():
                desk.put(name, LINE)
                if name == "b":
                    continue
                break
        self.assertEqual(desk.labels, ("a",))

    def test_during(self):
        desk = made(a=RING)
        before = (told(desk), history(desk))
        self.assertEqual(desk.during(lambda same: (same is desk, same.put("b", LINE), len(same.lines))),
                         (True, ((), (line_of("b", LINE),)), 2))
        self.assertIs(desk.during(lambda same: same), desk)
        self.assertEqual((told(desk), history(desk)), before)
        self.assertEqual(desk.during(lambda same: same.during(lambda inner: inner.drop("a"))), (("a: " + RING_LINE,), ()))
        self.raised(UnknownName, desk.during, lambda same: (same.drop("a"), same.drop("a")))
        self.assertEqual((told(desk), history(desk)), before)
        self.assertEqual(desk.during(lambda same: same.twin().put("b", LINE)[1]), (line_of("b", LINE),))


class TwinTest(DeskChecks):
    def test_twins_go_on_by_themselves(self):
        desk = made(a=RING, b=LINE)
        desk.demand(("ties", "a", 4))
        desk.undo()
        twin = desk.twin()
        self.assertIsNot(twin, desk)
        self.assertEqual([told(twin), history(twin), twin == desk], [told(desk), history(desk), True])
        before = (told(desk), history(desk))
        twin.redo()
        twin.drop("b")
        self.assertEqual((told(desk), history(desk)), before)
        own = (told(twin), history(twin))
        desk.undo(many=2)
        desk.put("z", LONE)
        self.assertEqual((told(twin), history(twin)), own)
        self.assertEqual([twin.changes, desk.changes, twin.labels, desk.labels], [4, 1, ("a",), ("z",)])

    def test_twins_of_trials(self):
        desk = made(a=RING)
        with desk.trial():
            desk.put("b", LINE)
            twin = desk.twin()
        self.assertEqual([twin.labels, desk.labels, twin.changes], [("a", "b"), ("a",), 2])
        with twin.trial():
            desk.drop("a")
        self.assertEqual([twin.labels, desk.labels], [("a", "b"), ()])

    def test_nothing_is_shared(self):
        places, ties = RING.places, RING.ties
        desk = made(a=RING)
        desk.field_named("a").ties.clear()
        ties.clear()
        self.assertEqual([desk.field_named("a"), len(desk.field_named("a"))], [Field(places, RING.ties), 4])
        names = {"a": "b"}
        desk.rename(names)
        names["a"] = "c"
        self.assertEqual([desk.labels, names], [("b",), {"a": "c"}])


class ComparedTest(DeskChecks):
    def test_equal(self):
        desk, other = made(a=RING, b=LINE), made(b=LINE, a=RING)
        self.assertTrue(desk == other)
        self.assertFalse(desk != other)
        other.drop("a")
        self.assertFalse(desk == other)
        other.undo()
        self.assertTrue(desk == other)
        desk.demand(("ties", "a", 4))
        self.assertTrue(desk != other)
        desk.demand(("tree", "b"))
        other.demand(("tree", "b"))
        other.demand(("ties", "a", 4))
        self.assertFalse(desk == other)
        self.assertEqual([desk.lines, len(desk)], [other.lines, len(other)])
        desk.waive(("ties", "a", 4))
        desk.demand(("ties", "a", 4))
        self.assertEqual([desk == other, desk.changes == other.changes], [True, False])

    def test_not_equal(self):
        self.assertFalse(made(a=RING) == made(b=RING))
        self.assertFalse(made(a=RING) == made(a=LINE))
        self.assertTrue(Desk() == Desk())
        self.each_judged(False, ODD_VALUES + (RING, Desk, [Desk()]), lambda value: Desk() == value)
        self.each_judged(True, ODD_VALUES + (RING, Desk, [Desk()]), lambda value: Desk() != value)

    def test_members(self):
        desk = made(a=RING, b=LONE)
        desk.demand(("share", "a", 0, 0, 1))
        self.each_judged(True, ("a: " + RING_LINE, "b: 1/2 3 / -", ("share", "a", 0, 0, 1)), lambda value: value in desk)
        self.each_judged(False, ODD_VALUES + NO_PLEDGES + (
            "a", "b: 1/2 3", ("share", "a", 0, 0, (1, 1)), ["share", "a", 0, 0, 1], ("ties", "a", 4), RING, desk,
            ["b: 1/2 3 / -"], ("b: 1/2 3 / -",)), lambda value: value in desk)

    def test_iterated(self):
        desk = made(b=LONE, a=RING)
        self.assertEqual([list(desk), sorted(desk), [line for line in desk], len(desk)],
                         [["a: " + RING_LINE, "b: 1/2 3 / -"]] * 3 + [0])
        self.assertEqual(list(Desk()), [])

    def test_tuples(self):
        desk = made(a=RING)
        desk.demand(("ties", "a", 4))
        self.assertEqual([type(found) for found in (desk.labels, desk.lines, desk.pledges, desk.changes)],
                         [tuple, tuple, tuple, int])
        desk.waive(("ties", "a", 4))
        news = desk.drop("a")
        self.assertEqual([type(news), type(news[0]), type(news[1])], [tuple] * 3)


class PromisesTest(DeskChecks):
    def test_grow_keeps_pledges(self):
        for field in (RING, KIND, LONE, COUPLE, STILL):
            desk = made(a=field)
            kept = [("ties", "a", len(field))] + [
                ("share", "a", place, share(field, place, {}), share(field, place, {})) for place in range(field.size)]
            if has_order(field):
                kept.append(("order", "a"))
            for pledge in kept:
                desk.demand(pledge)
            desk.grow("a", (3, 7))
            self.assertEqual(desk.pledges, tuple(kept))
        for pledge in (("places", "a", 3), ("tree", "a")):
            desk = made(a=KIND)
            desk.demand(pledge)
            self.breaks(desk, pledge, desk.grow, "a", (3, 7))

    def test_a_tie_of_equal_weights_keeps_shares(self):
        for field in (RING, KIND, MIXED, APART, STRAIGHT):
            desk = made(a=field)
            shares = [share(field, place, {}) for place in range(field.size)]
            new = [tie for tie in combinations(range(field.size), 2) if tie not in field.ties]
            for first, second in new[:2]:
                desk.tie("a", first, second, (((2, 3), (2, 3)), ((2, 3), (2, 3))))
            self.assertEqual([share(desk.field_named("a"), place, {}) for place in range(field.size)], shares)

    def test_untie_does_not_keep_shares(self):
        desk = made(a=RING)
        pledge = ("share", "a", 0, (2, 7), (2, 7))
        desk.demand(pledge)
        self.breaks(desk, pledge, desk.untie, "a", 0, 1)

    def test_undo_does_not_ask_pledges(self):
        # The pledge that is taken back with the change does not keep the change from being taken back.
        desk = made(a=RING)
        desk.demand(("ties", "a", 4))
        desk.undo(many=2)
        self.assertEqual([desk.labels, desk.pledges], [(), ()])
        desk.redo(many=2)
        self.assertEqual([desk.labels, desk.pledges], [("a",), (("ties", "a", 4),)])
