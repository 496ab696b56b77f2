"""What the document promises over the whole program: [0.2], [0.4], [0.5], [0.17], [0.20] and [0.21]."""

import importlib
import inspect

from pinnedgaps import errors
from pinnedgaps.bags.lots import Lots
from pinnedgaps.errors import InvalidTable, ParseError, Refused, TooMany
from pinnedgaps.going.exchange import lets_exchanges
from pinnedgaps.going.gaps import is_gap, local_gap, near_gap
from pinnedgaps.nearby.bounds import is_bound
from pinnedgaps.nearby.influence import influence, influence_gap
from pinnedgaps.nearby.local import hangs_together
from pinnedgaps.twostate.fields import field_lots, rows_of, share
from pinnedgaps.use.desk import Desk
from pinnedgaps.wood.cuts import is_in_cut
from pinnedgaps.wood.trees import plain_order, share_by_walks
from tests.bags import PAIRS, THREE, TWO
from tests.checks import Checks
from tests.exact import exact
from tests.samples import LONG, LONG_BOTTOM, ODD_VALUES, deep
from tests.test_interface import FUNCTIONS
from tests.webs import FIVE, FULL, LINE, MIXED, RING, WHEEL

PLAIN = plain_order(RING)
SADDLE = ((0, 1), (1, 0))
# What stands ahead of the value that is judged; functions that are not here take the value alone.
AHEAD = {
    "is_diagonal_paper": (SADDLE,), "is_minus_row": (SADDLE,), "is_pin": (PAIRS,), "is_row_lot": (2,),
    "is_parting": (TWO, ()), "is_low_row": (THREE, (1,), (-1, 2)), "are_level_bounds": (THREE,), "is_gap": (PAIRS,),
    "is_exchange_fault": (PAIRS,), "is_exchange_path": (PAIRS, (0, 1), (2, 3)), "is_pinned_fault": (PAIRS,),
    "is_pins": (RING,), "is_order": (RING,), "is_tree_of_nodes": (RING,), "is_in_cut": (RING, 0, PLAIN, 2),
    "are_below": (RING, (0, 0, 0, 1)),
}


def wrapped(value, levels):
    """The value in tuples, lists and dicts by turns."""
    for level in range(levels):
        value = ((value,), [value], {level: value})[level % 3]
    return value


EVERY_VALUE = ODD_VALUES + (
    10 ** 100 - 1, -10 ** 99, (LONG, LONG_BOTTOM), (LONG, 1), "".join(map(chr, range(127))), "a" * 4000, "\x00",
    deep(8), wrapped(1, 8), wrapped("a", 7), wrapped(PAIRS, 7), wrapped((0, 1), 6), wrapped(True, 8),
    PAIRS, RING, Desk(), Desk().trial(), Lots, Desk, InvalidTable("no"), ParseError(3), TooMany(4), Refused(("a", 1)),
    {None: 1}, {True: 1}, {(1, 2): 3, "a": None, 1: 2}, {((((1,),),),): {}}, {InvalidTable("no"): 1}, {(): ()}, {"": ""},
    (PAIRS, RING), [Desk()], {0: RING}, ((),), ((), ()), ([],), ({},), ((None,),), (("a",),), ((0, 1), None), (None, (0, 1)),
    (((0, 1),),), ("tree", "a"), ("tree", ["a"]), (["tree"], "a"), ({}, {}), ({}, []), (0, {}), ((1, 1), {}), ((0, -1, None),),
    ((0, -1, None), (1, 0, {})), ((0, -1, None), (1, [], None)), ((0, 1), (1, 2), [2, 3]), [[1]], [(1,)], ([1],), {0: [1]},
    ((1, 2), (2, 1)), ((1, 2), (2, [1])), ((1, 2), (2, {})), (((1, 0), (0, 1)), (1, {})), -1, 0, 1, 2, (0,), (0, 1), (1, 0))


class JudgedTest(Checks):
    def judges(self):
        for module_name, functions in FUNCTIONS.items():
            for name, parameters in functions.items():
                if parameters.split()[-1] == "value":
                    yield getattr(importlib.import_module(module_name), name)

    def test_every_value_is_judged(self):
        judges = list(self.judges())
        self.assertGreater(len(judges), 20)
        for judge in judges:
            ahead = AHEAD.get(judge.__name__, ())
            self.assertEqual(len(ahead) + 1, len(inspect.signature(judge).parameters), judge.__name__)
            for value in EVERY_VALUE:
                with self.subTest(judge=judge.__name__, value=repr(value)[:80]):
                    found = judge(*ahead, value)
                    self.assertIsInstance(found, bool)
                    self.assertIs(judge(*ahead, value), found)

    def test_members_and_equal_ones(self):
        desk = Desk()
        desk.put("a", RING)
        desk.demand(("ties", "a", 4))
        for thing in (PAIRS, desk):
            for value in EVERY_VALUE:
                with self.subTest(thing=str(thing), value=repr(value)[:80]):
                    self.assertIs(value in thing, thing is PAIRS and repr(value) in map(repr, PAIRS.lots))
        for thing in (PAIRS, RING, desk):
            for value in EVERY_VALUE:
                with self.subTest(thing=str(thing), value=repr(value)[:80]):
                    self.assertIs(thing == value, value is thing)
                    self.assertIs(thing != value, value is not thing)

    def test_what_asks_for_names_answers_true_or_false(self):
        names = [name for functions in FUNCTIONS.values() for name in functions
                 if name.startswith(("is_", "are_", "has_", "lets_"))]
        self.assertLessEqual(set(AHEAD), set(names))
        for name, arguments in (("has_no_minus", (SADDLE,)), ("lets_exchanges", (PAIRS,)), ("has_order", (RING,)),
                                ("is_tree", (LINE,)), ("is_free_field", (RING,)), ("is_even", (PAIRS,)),
                                ("are_scaled", (PAIRS, THREE)), ("is_bound", (PAIRS, (), 0)),
                                ("is_influence_bound", (RING, {}, 1)), ("is_settled", (PAIRS, (0, 1), (0,) * 8))):
            self.assertIn(name, names)
            module = next(module for module, functions in FUNCTIONS.items() if name in functions)
            self.assertIsInstance(getattr(importlib.import_module(module), name)(*arguments), bool)


class RefusedTest(Checks):
    def test_first_arguments(self):
        """Each function that takes lots or a field first refuses all else with the error of this kind."""
        told = {"lots": (errors.InvalidLots, PAIRS), "field": (errors.InvalidField, RING)}
        many = 0
        for module_name, functions in FUNCTIONS.items():
            for name, parameters in functions.items():
                first, *others = parameters.split()
                if first in told:
                    many += 1
                    call = getattr(importlib.import_module(module_name), name)
                    for value in EVERY_VALUE:
                        if value is not told[first][1]:
                            with self.subTest(name=name, value=repr(value)[:80]):
                                self.raised(told[first][0], call, value, *(None for _ in others))
        self.assertGreater(many, 80)


class PromisesTest(Checks):
    def test_objects_are_not_iterated_over(self):
        for thing in (PAIRS, RING, Desk().trial()):
            with self.assertRaises(TypeError):
                iter(thing)
        self.assertEqual(list(Desk()), [])

    def test_gaps_by_pins_and_by_influences(self):
        for field in (RING, MIXED, LINE):
            lots = field_lots(field)
            self.assertTrue(is_gap(lots, local_gap(lots, 6)))
            self.assertTrue(is_gap(lots, influence_gap(field, 6)))

    def test_shares_by_trees_of_walks_and_within_cuts(self):
        for field in (RING, MIXED, FIVE, WHEEL, FULL):
            order = plain_order(field)
            weights = rows_of(field)
            for place in range(field.size):
                own = share_by_walks(field, place, order, {})
                ones = sum(exact(weight) for row, weight in weights.items() if row[place] == 1)
                self.assertEqual(exact(own), ones / sum(map(exact, weights.values())))
                self.assertEqual(own, share(field, place, {}))
                for depth in range(8):
                    self.assertTrue(is_in_cut(field, place, order, depth, own))

    def test_what_is_not_true(self):
        apart = Lots.even(((0, 1, 2), (3, 4, 5)))
        self.assertEqual([[hangs_together(apart, pin) for pin in apart.pins(1)], hangs_together(apart, ())],
                         [[True] * 6, False])
        self.assertLess(exact(local_gap(THREE, 10)), exact(near_gap(THREE, 10)))
        self.assertNotEqual(influence(MIXED, 0, 1, {}), influence(MIXED, 1, 0, {}))
        heavy = Lots({(0, 1): 1, (0, 2): 1, (0, 3): 1, (1, 2): 1, (1, 3): 1, (2, 3): 9})
        self.assertEqual([lets_exchanges(heavy), is_bound(heavy, (), 0)], [True, False])
