"""The promises [4.1] to [4.5], and what pinnedgaps.bags.rows has."""

from itertools import combinations, permutations, product
from math import comb

from pinnedgaps.bags import rows as module
from pinnedgaps.bags.lots import Lots, are_scaled, scaled_to
from pinnedgaps.bags.rows import (
    even_weights, is_even, is_row_lot, joined, level_lots, lot_of_row, renamed, restricted, row_of_lot, rows_lots)
from pinnedgaps.errors import InvalidLots, InvalidOperation, InvalidRow
from pinnedgaps.nearby.bounds import bound_table, near_bound
from tests.bags import (
    ALL, CHAIN, FORTY_FIVES, FORTY_FOURS, FORTY_PAIRS, HEAVY, HINGE, LONGS, NO_LOTS, ONE, PAIR, PAIRS, SINGLE,
    SIXTIES, SMALL, THREE, TWO, UNLIKE)
from tests.checks import Checks
from tests.exact import as_pair, exact
from tests.examples import run_examples
from tests.samples import LONG, LONG_BOTTOM, ODD_VALUES, SIXTY, SIXTY_ONE

EXAMPLES = """
>>> [lot_of_row((1, 0), 3), row_of_lot((0, 3, 5), 2), is_row_lot(2, (0, 1)), is_row_lot(2, (1, 2))]
[(1, 3), (0, 1, 1), False, True]
>>> rows_lots({(0, 0): 1, (0, 1): 2, (1, 0): (1, 2)}, 2).weights
{(0, 2): (1, 1), (0, 3): (2, 1), (1, 2): (1, 2)}
>>> JOINED = joined(PAIRS, Lots({(0,): 1, (1,): (1, 2)}))
>>> [len(JOINED), JOINED.weights[(0, 1, 5)], JOINED.total, level_lots(THREE, 2).weights, level_lots(THREE, 1).weights]
[12, (1, 2), (9, 1), {(0, 1): (2, 1), (0, 2): (2, 1), (0, 3): (2, 1), (1, 2): (1, 1), (1, 3): (1, 1), (2, 3): (1, 1)}, {(0,): (3, 1), (1,): (2, 1), (2,): (2, 1), (3,): (2, 1)}]
>>> [is_even(THREE), restricted(THREE, ((0, 2, 3),)).lots, renamed(THREE, {0: 7, 1: 3, 2: 5, 3: 0}).lots]
[True, ((0, 2, 3),), ((0, 3, 7), (0, 5, 7), (3, 5, 7))]
>>> row_of_lot((0, 1), 2)
raises InvalidRow
"""

# No tuples of one to five integers from 0 to 7.
NO_ROWS = tuple(value for value in ODD_VALUES if repr(value) not in (
    "(1,)", "(1, 2, 3)", "(2, 4)", "(1, 0)", "(0, 2)")) + (
    (0, 8), (0, -1), (0, True), (False,), (0, "1"), (0, None), (0, (1, 1)), ((0, 1),), [0, 1], (0,) * 6, {0: 1}, 0,
    (0, SIXTY_ONE), PAIRS, (PAIRS,), (0, [1]))
NO_ROW_DICTS = tuple(value for value in ODD_VALUES if repr(value) != "{(1, 2): 3}") + (
    PAIRS, (PAIRS,), {}, {(0, 1): 1, (0,): 1}, {(0, 1): 0}, {(0, 1): (-1, 2)}, {(0, 1): True}, {(0, 1): (2, 4)},
    {(0, 1): "1"}, {(0, 1): None}, {(0, 1): SIXTY_ONE}, {(0, 1): [1]}, {(0, 1): 1, (1, 1): (0, 1)}, [((0, 1), 1)],
    {row: 1 for row in list(product(range(4), repeat=3))[:41]},
    {(0, 8): 1}, {(0, -1): 1}, {(0, True): 1}, {(False,): 1}, {(0, "1"): 1}, {(): 1}, {0: 1}, {"01": 1}, {None: 1},
    {(0,) * 6: 1}, {((0, 1),): 1}, {(0, (1, 1)): 1})
NO_STATES = ODD_VALUES + (0, 9, -1, (2, 1), PAIRS)
NOT_LOTS = tuple(value for value in ODD_VALUES if repr(value) not in ("(1,)", "(1, 2, 3)", "(2, 4)", "(0, 2)")) + (
    (0, 0), (1, 0), (0, 8), (-1, 0), (0, True), (0, 1, 2, 3, 4, 5), [0, 1], {0: 1}, ((0, 1),), PAIRS, 0)


class ExamplesTest(Checks):
    def test_examples(self):
        run_examples(self, ["pinnedgaps.bags.lots", "pinnedgaps.bags.rows"], EXAMPLES)

    def test_constants(self):
        self.assertEqual((module.MAX_THINGS, module.MAX_LOTS, module.MAX_SIZE), (8, 40, 5))


class RowTest(Checks):
    def test_rows_and_lots_and_back(self):
        for states in range(1, 9):
            for length in range(1, 6):
                if states * length > 8:
                    continue
                for row in product(range(states), repeat=length):
                    lot = lot_of_row(row, states)
                    self.assertEqual(lot, tuple(states * i + a for i, a in enumerate(row)))
                    self.assertEqual(row_of_lot(lot, states), row)
                    self.assertIs(is_row_lot(states, lot), True)

    def test_judged_lots(self):
        for states in range(1, 9):
            for size in range(1, 6):
                made = {tuple(states * i + a for i, a in enumerate(row))
                        for row in product(range(states), repeat=size)} if states * size <= 8 else set()
                for lot in combinations(range(8), size):
                    self.assertIs(is_row_lot(states, lot), lot in made)
                    if lot not in made:
                        self.raised(InvalidRow, row_of_lot, lot, states)
        for states in (1, 2, 8):
            self.each_judged(False, NOT_LOTS + ((),), lambda value: is_row_lot(states, value))

    def test_wrong_rows(self):
        self.each_raises(InvalidRow, NO_ROWS, lambda value: lot_of_row(value, 8))
        self.each_raises(InvalidRow, NO_ROWS, lambda value: lot_of_row(value, 1))
        self.each_raises(InvalidRow, NO_ROWS, lambda value: lot_of_row(value, "no number"))

    def test_wrong_states(self):
        self.each_refused_number(NO_STATES, lambda value: lot_of_row((0, 1), value))
        self.each_refused_number(NO_STATES, lambda value: row_of_lot((0, 1), value))
        self.each_refused_number(NO_STATES, lambda value: is_row_lot(value, (0, 1)))
        self.each_refused_number(NO_STATES, lambda value: is_row_lot(value, "no lot"))
        self.each_refused_number(NO_STATES, lambda value: rows_lots({(0, 1): 1}, value))

    def test_states_out_of_bounds(self):
        for row, states in (((0, 1), 1), ((2, 0), 2), ((7,), 7), ((0, 0, 2), 2), ((0, 0, 0, 0, 1), 1)):
            self.raised(InvalidRow, lot_of_row, row, states)
            self.raised(InvalidRow, rows_lots, {row: 1}, states)
        self.raised(InvalidRow, rows_lots, {(0, 0): 1, (0, 2): 1}, 2)

    def test_too_many_things(self):
        for row, states in (((0, 0), 5), ((0, 4), 8), ((1, 1, 1), 3), ((0,) * 5, 2)):
            self.too_many(8, lot_of_row, row, states)
            self.too_many(8, rows_lots, {row: 1}, states)
        self.assertEqual([lot_of_row((7,), 8), lot_of_row((3, 3), 4), lot_of_row((0,) * 5, 1)],
                         [(7,), (3, 7), (0, 1, 2, 3, 4)])

    def test_a_state_is_refused_ahead_of_the_number_of_things(self):
        self.raised(InvalidRow, lot_of_row, (5, 5), 5)
        self.raised(InvalidRow, rows_lots, {(0, 0): 1, (5, 5): 1}, 5)

    def test_wrong_lots(self):
        self.each_raises(InvalidLots, NOT_LOTS + ((),), lambda value: row_of_lot(value, 2))
        self.each_raises(InvalidLots, NOT_LOTS + ((),), lambda value: row_of_lot(value, "no number"))


class RowsLotsTest(Checks):
    def test_rows(self):
        weights = {(1, 0, 1): 3, (0, 0, 0): (1, 2), (0, 1, 1): (LONG, LONG_BOTTOM)}
        self.assertEqual(rows_lots(weights, 2).weights,
                         {(0, 2, 4): (1, 2), (0, 3, 5): (LONG, LONG_BOTTOM), (1, 2, 5): (3, 1)})
        self.assertEqual(list(weights), [(1, 0, 1), (0, 0, 0), (0, 1, 1)])

    def test_one_row_and_many(self):
        self.assertEqual(rows_lots({(7,): SIXTY}, 8).weights, {(7,): (SIXTY, 1)})
        self.assertEqual(rows_lots({(0,) * 5: 1}, 1).lots, ((0, 1, 2, 3, 4),))
        many = {row: 1 + row[0] for row in product(range(2), repeat=4)}
        self.assertEqual(len(rows_lots(many, 2)), 16)
        self.assertEqual(rows_lots(many, 2).total, (24, 1))

    def test_forty_rows(self):
        # A row dict can have so many, but then they have too many things.
        forty = {row: 1 for row in list(product(range(4), repeat=3))[:40]}
        self.too_many(8, rows_lots, forty, 4)
        self.raised(InvalidRow, rows_lots, forty, 2)

    def test_pins_pin_states_of_places(self):
        lots = rows_lots({(a, b, c): 1 + a + 2 * b * c for a, b, c in product(range(2), repeat=3)}, 2)
        self.assertEqual(lots.weight_of((1,)), (2 + 2 + 2 + 4, 1))
        self.assertEqual(lots.weight_of((3, 5)), (3 + 4, 1))
        self.assertEqual([pin for pin in lots.pins(2) if pin in ((0, 1), (2, 3), (4, 5))], [])

    def test_wrong_row_dicts(self):
        self.each_raises(InvalidRow, NO_ROW_DICTS, lambda value: rows_lots(value, 2))
        self.each_raises(InvalidRow, NO_ROW_DICTS, lambda value: rows_lots(value, "no number"))


class JoinedTest(Checks):
    def test_joined_lots(self):
        other = Lots({(0,): 1, (2,): (1, 2)})
        for one in (PAIRS, THREE, CHAIN, HINGE, TWO.link((0,))):
            shift = one.things[-1] + 1
            found = joined(one, other)
            self.assertEqual(found.weights, {
                lot + tuple(thing + shift for thing in further): as_pair(exact(weight) * exact(other.weights[further]))
                for lot, weight in one.weights.items() for further in other.lots})
            self.assertEqual(exact(found.total), exact(one.total) * exact(other.total))

    def test_shares_of_pins(self):
        one, other = UNLIKE, Lots({(0, 2): 1, (1, 2): (1, 2)})
        found = joined(one, other)
        for size in range(found.size + 1):
            for pin in found.pins(size):
                first = tuple(thing for thing in pin if thing < 5)
                second = tuple(thing - 5 for thing in pin if thing >= 5)
                self.assertEqual(exact(found.share_of(pin)),
                                 exact(one.share_of(first)) * exact(other.share_of(second)))

    def test_as_many_lots_as_there_can_be(self):
        # No two lots within the bounds of sizes and things make more than 40.
        found = joined(Lots.all_of(6, 3), Lots({(0,): 1, (1,): 2}))
        self.assertEqual([len(found), found.things, found.total], [40, tuple(range(8)), (60, 1)])
        self.assertEqual(len(joined(Lots.all_of(7, 3), Lots({(0,): 1}))), 35)
        self.assertEqual(len(joined(PAIRS, PAIRS)), 36)

    def test_too_great_lots(self):
        for one, other in ((THREE, THREE), (ONE, SINGLE), (SINGLE, ONE), (FORTY_FOURS, CHAIN)):
            self.too_many(5, joined, one, other)

    def test_too_many_things(self):
        for one, other in ((SINGLE, Lots({(0,): 1})), (PAIR, Lots({(1,): 1})), (FORTY_PAIRS, CHAIN)):
            self.too_many(8, joined, one, other)
        self.assertEqual(joined(PAIR, Lots({(0,): 1})).lots, ((3, 6, 7),))

    def test_the_first_error_is_raised(self):
        self.too_many(5, joined, FORTY_FIVES, FORTY_FIVES)
        self.too_many(8, joined, FORTY_PAIRS, FORTY_PAIRS)

    def test_wrong_lots(self):
        self.lots_are_refused_first(NO_LOTS, ((joined, (PAIRS,)), (joined, (None,))))
        self.each_raises(InvalidLots, NO_LOTS, lambda value: joined(PAIRS, value))


class LevelTest(Checks):
    def test_levels(self):
        for lots in ALL:
            for size in range(1, lots.size + 1):
                pins = lots.pins(size)
                if len(pins) > 40:
                    self.too_many(40, level_lots, lots, size)
                else:
                    self.assertEqual(level_lots(lots, size).weights, {pin: lots.weight_of(pin) for pin in pins})
            self.assertEqual(level_lots(lots, lots.size), lots)

    def test_totals(self):
        for lots in SMALL + (LONGS, SIXTIES):
            for size in range(1, lots.size + 1):
                self.assertEqual(exact(level_lots(lots, size).total), comb(lots.size, size) * exact(lots.total))

    def test_levels_of_levels(self):
        for lots in SMALL:
            for high in range(1, lots.size + 1):
                level = level_lots(lots, high)
                for low in range(1, high + 1):
                    wanted = {lot: comb(lots.size - low, high - low) * exact(weight)
                              for lot, weight in level_lots(lots, low).weights.items()}
                    found = level_lots(level, low).weights
                    self.assertEqual({lot: exact(weight) for lot, weight in found.items()}, wanted)

    def test_bounds_of_levels(self):
        for lots in (THREE, TWO, HINGE, UNLIKE, SIXTIES, ONE):
            for size in range(2, lots.size + 1):
                level = level_lots(lots, size)
                self.assertEqual(near_bound(level, (), 10), near_bound(lots, (), 10))

    def test_wrong_sizes(self):
        for lots in (PAIRS, SINGLE):
            self.each_refused_number(ODD_VALUES + (0, -1, lots.size + 1, (1, 1), PAIRS),
                                     lambda value: level_lots(lots, value))

    def test_wrong_lots(self):
        self.lots_are_refused_first(NO_LOTS, ((level_lots, (1,)), (level_lots, ("no number",))))


class EvenTest(Checks):
    def test_even_weights(self):
        for lots in ALL:
            found = even_weights(lots)
            self.assertEqual(found.weights, {lot: (1, 1) for lot in lots.lots})
            self.assertIs(is_even(found), True)
            self.assertIs(is_even(scaled_to(found, (LONG, LONG_BOTTOM))), True)

    def test_judged(self):
        for lots in ALL:
            self.assertIs(is_even(lots), len(set(lots.weights.values())) == 1)
        self.assertEqual([is_even(PAIRS), is_even(SINGLE), is_even(CHAIN), is_even(TWO)], [True, True, False, False])
        self.assertIs(is_even(Lots({(0,): 2, (1,): (2, 1), (2,): 2})), True)

    def test_wrong_lots(self):
        self.lots_are_refused_first(NO_LOTS, ((even_weights, ()), (is_even, ())))


class RestrictedTest(Checks):
    def test_restricted(self):
        self.assertEqual(restricted(HEAVY, ((2, 3), (0, 1))).weights, {(0, 1): (1, 1), (2, 3): (9, 1)})
        for lots in ALL:
            self.assertEqual(restricted(lots, lots.lots[:1]).weights, {lots.lots[0]: lots.weights[lots.lots[0]]})
            self.assertEqual(restricted(lots, tuple(reversed(lots.lots))), lots)

    def test_wrong_lots_in_some(self):
        self.each_raises(InvalidOperation, ODD_VALUES + (
            (), ((0, 1), (0, 1)), ((0, 4),), ((1, 0),), ((0, 1), (1,)), [(0, 1)], {(0, 1): 1}, (0, 1), ((0, True),),
            ((0, 1), [0, 2]), ((0, 1), None), ((0, 1), {}), PAIRS, (PAIRS,), PAIRS.lots + ((0, 1),)),
            lambda value: restricted(PAIRS, value))

    def test_wrong_lots(self):
        self.lots_are_refused_first(NO_LOTS, ((restricted, (((0, 1),),)), (restricted, (None,))))


class RenamedTest(Checks):
    names = {0: 7, 1: 3, 2: 5, 3: 0}

    def test_renamed(self):
        self.assertEqual(renamed(Lots({(0, 7): 1, (3, 7): (2, 3)}), {7: 0, 0: 7, 3: 4}).weights,
                         {(0, 4): (2, 3), (0, 7): (1, 1)})
        for lots in ALL:
            self.assertEqual(renamed(lots, {thing: thing for thing in lots.things}), lots)
            around = dict(zip(lots.things, reversed(range(8))))
            back = {name: thing for thing, name in around.items()}
            self.assertEqual(renamed(renamed(lots, around), back), lots)

    def test_all_goes_along(self):
        for lots in (PAIRS, THREE, HEAVY, CHAIN):
            for names in permutations((0, 2, 5, 7)):
                by_thing = dict(enumerate(names))
                other = renamed(lots, by_thing)
                for size in range(lots.size + 1):
                    for pin in lots.pins(size):
                        led = tuple(sorted(by_thing[thing] for thing in pin))
                        self.assertEqual(lots.share_of(pin), other.share_of(led))
                        if size < lots.size:
                            self.assertEqual(lots.link(pin).total, other.link(led).total)
                        if size <= lots.size - 2:
                            self.assertEqual(near_bound(lots, pin, 4), near_bound(other, led, 4))

    def test_wrong_names(self):
        self.each_raises(InvalidOperation, (
            None, 1, (), "", [], ((0, 1),), {}, {0: 0, 1: 1, 2: 2}, {0: 0, 1: 1, 2: 2, 3: 3, 4: 4},
            {0: 0, 1: 1, 2: 2, 4: 3}, {0: 0, 1: 1, 2: 2, 3: 2}, {0: 0, 1: 1, 2: 2, 3: 8}, {0: 0, 1: 1, 2: 2, 3: -1},
            {0: 0, 1: 1, 2: 2, 3: None}, {0: 0, 2: 2, 3: 3, True: 1}, {False: 0, 1: 1, 2: 2, 3: 3},
            {0: 0, 1: True, 2: 2, 3: 3}, {0: False, 1: 1, 2: 2, 3: 3}, {0: 0, 1: 1, 2: 2, "3": 3},
            {0: 0, 1: 1, 2: 2, (3,): 3}, {0: 0, 1: 1, 2: 2, 3: (3, 1)}, {0: 0, 1: 1, 2: 2, 3: [3]}, PAIRS,
            {0: 0, 1: 1, 2: 2, 3: PAIRS}, {0: 0, 1: 1, 2: 2, 3: 3, None: 4}), lambda value: renamed(PAIRS, value))

    def test_wrong_lots(self):
        self.lots_are_refused_first(NO_LOTS, ((renamed, (self.names,)), (renamed, (None,))))

    def test_arguments_stay(self):
        names = {3: 0, 1: 3, 0: 7, 2: 5}
        renamed(PAIRS, names)
        self.assertEqual(list(names.items()), [(3, 0), (1, 3), (0, 7), (2, 5)])


class PromisesTest(Checks):
    def test_a_number_for_all_weights_changes_nothing(self):
        for lots in (THREE, HEAVY, CHAIN, TWO, UNLIKE):
            other = scaled_to(lots, (1, SIXTY))
            for size in range(lots.size - 1):
                for pin in lots.pins(size):
                    self.assertEqual(near_bound(lots, pin, 6), near_bound(other, pin, 6))

    def test_tables_of_levels(self):
        level = level_lots(UNLIKE, 2)
        for bound in (0, (1, 3), -1):
            self.assertEqual(bound_table(level, (), bound), bound_table(UNLIKE, (), bound))

    def test_levels_of_even_lots_are_not_always_even(self):
        self.assertEqual([is_even(THREE), is_even(level_lots(THREE, 2)), is_even(level_lots(PAIRS, 1))],
                         [True, False, True])

    def test_scaled_lots_are_joined_to_scaled_ones(self):
        self.assertTrue(are_scaled(joined(PAIRS, CHAIN), joined(scaled_to(PAIRS, 7), scaled_to(CHAIN, (1, 9)))))
