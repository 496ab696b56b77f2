"""The promises [3.1] to [3.5], and what pinnedgaps.bags.lots has."""

from itertools import combinations
from math import comb

from pinnedgaps.bags import lots as module
from pinnedgaps.bags.lots import Lots, are_scaled, is_lots_data, is_pin, scaled_to
from pinnedgaps.base.numbers import is_fraction
from pinnedgaps.errors import InvalidLots, InvalidOperation, InvalidPin
from tests.bags import (
    ALL, CHAIN, FORTY_FIVES, FORTY_THREES, HEAVY, LONGS, NO_LOTS, NO_PINS, NO_SIZES, ONE, PAIR, PAIRS, SINGLE, SINGLES,
    SIXTIES, SMALL, THREE, TWO, UNLIKE, bag_of)
from tests.checks import Checks
from tests.exact import as_pair, exact
from tests.examples import run_examples
from tests.samples import LONG, LONG_BOTTOM, ODD_VALUES, SIXTY, SIXTY_ONE

EXAMPLES = """
>>> [PAIRS.lots, PAIRS.total, PAIRS.pins(1), PAIRS.weight_of((2,)), PAIRS.share_of((2,)), str(PAIRS), (1, 3) in PAIRS, [1, 3] in PAIRS]
[((0, 1), (0, 2), (0, 3), (1, 2), (1, 3), (2, 3)), (6, 1), ((0,), (1,), (2,), (3,)), (3, 1), (1, 2), '6 lots of 2 of 4 things', True, False]
>>> [THREE.link((0,)).lots, THREE.link((1, 2)).weights, THREE.things, THREE.size, THREE.pins(2), is_pin(THREE, (0, 3)), is_pin(THREE, (3, 0))]
[((1, 2), (1, 3), (2, 3)), {(0,): (1, 1)}, (0, 1, 2, 3), 3, ((0, 1), (0, 2), (0, 3), (1, 2), (1, 3), (2, 3)), True, False]
>>> [THREE.times({1: 2, 3: (1, 2)}).weights, scaled_to(THREE, 1).weights[(0, 1, 3)], are_scaled(THREE, scaled_to(THREE, 5)), Lots.even(((2,), (5,))) == Lots({(5,): 1, (2,): (1, 1)})]
[{(0, 1, 2): (2, 1), (0, 1, 3): (1, 1), (0, 2, 3): (1, 2)}, (1, 3), True, True]
>>> Lots({(0, 1): 1, (2,): 1})
raises InvalidLots
"""

# Keys that are no lots, but can be keys of a dict.
ODD_KEYS = (
    (), 0, 1, "", "01", None, True, (0, 0), (1, 0), (0, 8), (-1, 0), (0, True), (False, 1), (0, "1"), (0, None),
    (0, (1, 1)), ((0, 1),), (0, 1, 2, 3, 4, 5), (0, SIXTY_ONE))
FORTY_ONE = {name: 1 for name in list(combinations(range(8), 3))[:41]}
# Some of what is no object of `Lots` tells lots all the same.
WRONG_DATA = tuple(value for value in NO_LOTS if repr(value) not in ("{(0, 1): 1}", "{(1, 2): 3}")) + (
    PAIRS, {}, FORTY_ONE, {(0, 1): 1, (2,): 1}, {(0,): 1, (0, 1): 1}, {(0, 1): 0}, {(0, 1): (0, 1)},
    {(0, 1): -1}, {(0, 1): (-1, 2)}, {(0, 1): 1, (0, 2): 0}, {(0, 1): True}, {(0, 1): (2, 4)}, {(0, 1): "1"},
    {(0, 1): None}, {(0, 1): SIXTY_ONE}, {(0, 1): [1, 2]}, {(0, 1): {}}, {(0, 1): PAIRS}, {(0, 1): (1, True)},
) + tuple({key: 1} for key in ODD_KEYS) + tuple({(2, 3): 1, key: 1} for key in ODD_KEYS)
NO_FACTORS = (
    None, True, 1, (), "", [], [(0, 1)], ((0, 1),), {8: 1}, {-1: 1}, {True: 2}, {False: 2}, {"0": 1}, {(0,): 1},
    {None: 1}, {0: 0}, {0: -1}, {0: (0, 1)}, {0: (-1, 2)}, {0: (2, 4)}, {0: True}, {0: None}, {0: "1"}, {0: SIXTY_ONE},
    {0: 1, 1: 0}, {(0, 1): 1}, PAIRS, {0: PAIRS}, {SIXTY_ONE: 1})


class ExamplesTest(Checks):
    def test_examples(self):
        run_examples(self, ["pinnedgaps.bags.lots"], EXAMPLES)

    def test_constants(self):
        self.assertEqual((module.MAX_THING, module.MAX_SIZE, module.MAX_LOTS), (7, 5, 40))


class MadeTest(Checks):
    def test_properties(self):
        for lots in ALL:
            bag = bag_of(lots)
            self.assertEqual([lots.lots, lots.size, lots.things], [tuple(bag.lots), bag.size, tuple(bag.things())])
            self.assertEqual(lots.total, as_pair(bag.total))
            self.assert_fractions((lots.total,))

    def test_weights_are_fractions_by_ascending_lots(self):
        lots = Lots({(2, 5): (2, 3), (0, 7): 4, (0, 1): (9, 1)})
        self.assertEqual(list(lots.weights.items()), [((0, 1), (9, 1)), ((0, 7), (4, 1)), ((2, 5), (2, 3))])
        for found in ALL:
            self.assertEqual(list(found.weights), sorted(found.weights))
            self.assert_fractions(found.weights.values())

    def test_long_weights(self):
        self.assertEqual(LONGS.weights[(0, 1)], (LONG, LONG_BOTTOM))
        self.assertEqual(LONGS.weights[(1, 2)], (SIXTY, 1))
        self.assertEqual(exact(LONGS.total), sum(map(exact, LONGS.weights.values())))
        self.assertEqual(Lots({(0,): (SIXTY_ONE, 1)}).total, (SIXTY_ONE, 1))

    def test_one_and_forty_lots(self):
        self.assertEqual([len(SINGLE), len(ONE), len(FORTY_THREES), len(FORTY_FIVES)], [1, 1, 40, 40])
        self.assertEqual([SINGLE.total, ONE.total, ONE.size, SINGLE.things], [(1, 1), (3, 7), 5, (7,)])
        forty = dict(list(FORTY_ONE.items())[:40])
        self.assertEqual(Lots(forty).total, (40, 1))

    def test_wrong_data(self):
        self.each_raises(InvalidLots, WRONG_DATA, Lots)

    def test_judged_data(self):
        self.each_judged(False, WRONG_DATA, is_lots_data)
        self.each_judged(True, [lots.weights for lots in ALL] + [{(0, 1): 1}, {(7,): (1, 3)}, {(0, 1, 2, 3, 4): SIXTY}],
                         is_lots_data)


class AllOfTest(Checks):
    def test_all_lots(self):
        for things in range(1, 9):
            for size in range(1, 6):
                if things >= size and comb(things, size) <= 40:
                    lots = Lots.all_of(things, size)
                    self.assertEqual(lots.lots, tuple(combinations(range(things), size)))
                    self.assertEqual(set(lots.weights.values()), {(1, 1)})

    def test_too_few_things(self):
        for things, size in ((1, 2), (1, 5), (4, 5), (2, 3)):
            self.raised(InvalidOperation, Lots.all_of, things, size)

    def test_too_many_lots(self):
        for things, size in ((8, 3), (8, 4), (8, 5)):
            self.too_many(40, Lots.all_of, things, size)
        self.assertEqual([len(Lots.all_of(7, 3)), len(Lots.all_of(7, 4)), len(Lots.all_of(8, 2))], [35, 35, 28])

    def test_wrong_numbers(self):
        self.each_refused_number(ODD_VALUES + (0, 9, -1, (4, 1)), lambda value: Lots.all_of(value, 2))
        self.each_refused_number(ODD_VALUES + (0, 6, -1, (2, 1)), lambda value: Lots.all_of(4, value))

    def test_the_first_error_is_raised(self):
        self.refused_number("things", Lots.all_of, "things", "size")
        self.refused_number(0, Lots.all_of, 0, 9)
        self.refused_number(9, Lots.all_of, 3, 9)


class EvenTest(Checks):
    def test_even_lots(self):
        lots = Lots.even(((3, 4), (0, 1)))
        self.assertEqual(lots.weights, {(0, 1): (1, 1), (3, 4): (1, 1)})
        self.assertEqual(Lots.even(((0, 1, 2, 3, 7),)).total, (1, 1))
        self.assertEqual(len(Lots.even(tuple(FORTY_ONE)[:40])), 40)

    def test_wrong_lots(self):
        self.each_raises(InvalidLots, ODD_VALUES + (
            tuple(FORTY_ONE), ((0, 1), (0, 1)), ((0, 1), (2,)), [(0, 1)], {(0, 1): 1}, ((0, 1), [0, 2]), ((0, 1), None),
            (0, 1), PAIRS, (PAIRS,), ((0, 1), {})) + tuple((key,) for key in ODD_KEYS), Lots.even)


class PinsTest(Checks):
    def test_pins(self):
        for lots in ALL:
            bag = bag_of(lots)
            for size in range(lots.size + 1):
                self.assertEqual(lots.pins(size), tuple(bag.pins(size)))
            self.assertEqual([lots.pins(0), lots.pins(lots.size)], [((),), lots.lots])

    def test_weights_and_shares_of_pins(self):
        for lots in ALL:
            bag = bag_of(lots)
            for size in range(lots.size + 1):
                for pin in lots.pins(size):
                    self.assertEqual(lots.weight_of(pin), as_pair(bag.weight(*pin)))
                    self.assertEqual(lots.share_of(pin), as_pair(bag.weight(*pin) / bag.total))
                    self.assertTrue(is_fraction(lots.weight_of(pin)) and is_fraction(lots.share_of(pin)))

    def test_judged_pins(self):
        for lots in SMALL:
            pins = [pin for size in range(lots.size + 1) for pin in lots.pins(size)]
            for size in range(7):
                for pin in combinations(range(8), size):
                    self.assertIs(is_pin(lots, pin), pin in pins)
        self.each_judged(False, NO_PINS, lambda value: is_pin(PAIRS, value))
        self.each_judged(True, ((), (0,), (1, 3)), lambda value: is_pin(PAIRS, value))

    def test_pins_are_judged_beside_lots_alone(self):
        self.lots_are_refused_first(NO_LOTS, ((is_pin, ((),)), (is_pin, ("no pin",))))

    def test_wrong_sizes(self):
        for lots in (PAIRS, SINGLE, ONE):
            self.each_refused_number(NO_SIZES + (lots.size + 1,), lots.pins)

    def test_wrong_pins(self):
        for call in (PAIRS.weight_of, PAIRS.share_of, PAIRS.link):
            self.each_raises(InvalidPin, NO_PINS, call)
        for call in (THREE.weight_of, THREE.share_of, THREE.link):
            self.raised(InvalidPin, call, (1, 2, 3))
            self.raised(InvalidPin, call, (0, 1, 2, 3))


class LinkTest(Checks):
    def test_links(self):
        for lots in ALL:
            bag = bag_of(lots)
            for size in range(lots.size):
                for pin in lots.pins(size):
                    link = lots.link(pin)
                    self.assertEqual(link.size, lots.size - size)
                    self.assertEqual({lot: exact(weight) for lot, weight in link.weights.items()},
                                     bag.link(pin).weights)

    def test_the_link_of_the_pin_of_nothing(self):
        for lots in ALL:
            self.assertEqual(lots.link(()), lots)

    def test_a_lot_has_no_link(self):
        for lots in ALL:
            for lot in lots.lots:
                self.raised(InvalidOperation, lots.link, lot)


class TimesTest(Checks):
    def test_factors(self):
        lots = Lots({(0, 1): 3, (0, 2): (1, 2), (4, 6): 1})
        self.assertEqual(lots.times({0: (1, 3), 2: 4, 6: (5, 2), 7: 100}).weights,
                         {(0, 1): (1, 1), (0, 2): (2, 3), (4, 6): (5, 2)})
        self.assertEqual(lots.times({}), lots)
        self.assertEqual(lots.times({7: 3, 5: (1, 2)}), lots)
        long_factor = (LONG, LONG_BOTTOM)
        self.assertEqual(exact(PAIR.times({3: long_factor, 6: long_factor}).total), 5 * exact(long_factor) ** 2)

    def test_wrong_factors(self):
        self.each_raises(InvalidOperation, NO_FACTORS, PAIRS.times)


class ComparedTest(Checks):
    def test_equal(self):
        self.assertTrue(Lots({(0, 1): 1, (2, 3): (1, 2)}) == Lots({(2, 3): (1, 2), (0, 1): (1, 1)}))
        self.assertFalse(Lots({(0, 1): 1, (2, 3): (1, 2)}) != Lots({(2, 3): (1, 2), (0, 1): (1, 1)}))
        for at, lots in enumerate(ALL):
            self.assertEqual([lots == other for other in ALL], [place == at for place in range(len(ALL))])
            self.assertEqual([lots != other for other in ALL], [place != at for place in range(len(ALL))])

    def test_not_equal(self):
        self.assertFalse(PAIRS == PAIRS.times({0: 2}))
        self.assertFalse(PAIRS == scaled_to(PAIRS, 7))
        self.assertFalse(CHAIN == Lots({(0, 1): 1, (1, 2): 5}))
        self.each_judged(False, NO_LOTS, lambda value: PAIRS == value)
        self.each_judged(True, NO_LOTS, lambda value: PAIRS != value)

    def test_members(self):
        for lots in SMALL:
            for size in range(7):
                for name in combinations(range(8), size):
                    self.assertIs(name in lots, name in lots.lots)
        self.each_judged(False, NO_PINS + ((), (0,), (False, True), [0, 1]), lambda value: value in PAIRS)

    def test_lengths_and_texts(self):
        self.assertEqual([len(lots) for lots in ALL], [len(lots.lots) for lots in ALL])
        self.assertEqual([str(THREE), str(SINGLE), str(FORTY_THREES), str(TWO)],
                         ["3 lots of 3 of 4 things", "1 lots of 1 of 1 things", "40 lots of 3 of 8 things",
                          "2 lots of 3 of 6 things"])

    def test_they_are_not_iterated_over(self):
        with self.assertRaises(TypeError):
            iter(PAIRS)

    def test_nothing_is_shared(self):
        passed = {(0, 1): 1, (2, 3): 2}
        lots = Lots(passed)
        passed[(0, 1)] = 7
        passed[(4, 5)] = 1
        lots.weights[(0, 1)] = (5, 1)
        lots.weights.clear()
        self.assertEqual(lots.weights, {(0, 1): (1, 1), (2, 3): (2, 1)})
        self.assertEqual([len(lots), lots.total, (4, 5) in lots], [2, (3, 1), False])

    def test_arguments_stay(self):
        weights, factors = {(2, 3): 2, (0, 1): (1, 2)}, {3: 2, 0: (1, 3)}
        Lots(weights).times(factors)
        is_lots_data(weights)
        self.assertEqual(list(weights.items()), [((2, 3), 2), ((0, 1), (1, 2))])
        self.assertEqual(list(factors.items()), [(3, 2), (0, (1, 3))])


class ScaledTest(Checks):
    def test_scaled(self):
        for lots in ALL:
            for number in (1, (1, 3), SIXTY, (LONG, LONG_BOTTOM)):
                found = scaled_to(lots, number)
                factor = exact(number) / exact(lots.total)
                self.assertEqual(exact(found.total), exact(number))
                self.assertEqual({lot: exact(weight) for lot, weight in found.weights.items()},
                                 {lot: exact(weight) * factor for lot, weight in lots.weights.items()})
                self.assertIs(are_scaled(lots, found), True)
                self.assertIs(are_scaled(found, lots), True)
            self.assertEqual(scaled_to(lots, lots.total), lots)

    def test_not_scaled(self):
        for one, other in (
                (PAIRS, THREE), (CHAIN, PAIRS), (CHAIN, Lots({(0, 1): 1, (1, 2): 5})), (PAIRS, HEAVY),
                (CHAIN, Lots({(0, 1): 2, (1, 2): 10, (2, 3): 3})), (CHAIN, Lots({(0, 1): 1, (1, 2): 5, (2, 4): 1})),
                (SINGLE, Lots({(6,): 1}))):
            self.assertIs(are_scaled(one, other), False)
            self.assertIs(are_scaled(other, one), False)

    def test_one_lot_is_always_scaled(self):
        self.assertIs(are_scaled(SINGLE, Lots({(7,): (LONG, LONG_BOTTOM)})), True)

    def test_wrong_lots(self):
        self.lots_are_refused_first(NO_LOTS, (
            (are_scaled, (PAIRS,)), (are_scaled, (None,)), (scaled_to, (1,)), (scaled_to, (0,))))
        self.each_raises(InvalidLots, NO_LOTS, lambda value: are_scaled(PAIRS, value))

    def test_wrong_numbers(self):
        self.each_refused_number(ODD_VALUES + (0, -1, (0, 1), (-1, 2), PAIRS), lambda value: scaled_to(PAIRS, value))


class PromisesTest(Checks):
    def test_sums(self):
        for lots in ALL:
            self.assertEqual(lots.weight_of(()), lots.total)
            for size in range(lots.size + 1):
                pins = lots.pins(size)
                self.assertEqual(sum(exact(lots.share_of(pin)) for pin in pins), comb(lots.size, size))
                for pin in pins if size < lots.size else ():
                    above = [other for other in lots.pins(size + 1) if set(pin) <= set(other)]
                    self.assertEqual(exact(lots.weight_of(pin)) * (lots.size - size),
                                     sum(exact(lots.weight_of(other)) for other in above))

    def test_links_of_links(self):
        for lots in SMALL + (LONGS, SIXTIES):
            for size in range(lots.size):
                for pin in lots.pins(size):
                    link = lots.link(pin)
                    self.assertEqual(link.total, lots.weight_of(pin))
                    for further in range(link.size + 1):
                        self.assertEqual(
                            {tuple(sorted(pin + other)): link.weight_of(other) for other in link.pins(further)},
                            {both: lots.weight_of(both) for both in lots.pins(size + further)
                             if set(pin) <= set(both)})
                        for other in link.pins(further) if further < link.size else ():
                            both = tuple(sorted(pin + other))
                            self.assertEqual(link.link(other), lots.link(both))
                            self.assertEqual(lots.link(other).link(pin), lots.link(both))

    def test_factors_and_links(self):
        factors = {0: 3, 1: (1, 2), 2: (7, 5), 5: 10 ** 30}
        for lots in SMALL:
            led = lots.times(factors)
            for size in range(lots.size):
                for pin in lots.pins(size):
                    self.assertTrue(are_scaled(led.link(pin), lots.link(pin).times(factors)))
                    of_pin = exact(led.link(pin).total) / exact(lots.link(pin).times(factors).total)
                    wanted = 1
                    for thing in pin:
                        wanted *= exact(factors.get(thing, 1))
                    self.assertEqual(of_pin, wanted)

    def test_shares_hang_on_weights_up_to_a_number(self):
        for lots in SMALL:
            other = scaled_to(lots, (LONG, LONG_BOTTOM))
            for size in range(lots.size + 1):
                self.assertEqual([lots.share_of(pin) for pin in lots.pins(size)],
                                 [other.share_of(pin) for pin in other.pins(size)])

    def test_shares_of_things_do_not_tell_the_weights(self):
        one, other = PAIRS, Lots({(0, 1): 2, (2, 3): 2, (0, 2): 1, (1, 3): 1, (0, 3): 1, (1, 2): 1})
        self.assertEqual([one.share_of((thing,)) for thing in range(4)], [other.share_of((thing,)) for thing in range(4)])
        self.assertFalse(are_scaled(one, other))

    def test_pairs_that_are_pins_make_no_pin(self):
        for pair in ((1, 2), (1, 3), (2, 3)):
            self.assertTrue(is_pin(THREE, pair))
        self.assertFalse(is_pin(THREE, (1, 2, 3)))

    def test_pairs_of_all_things_can_be_pins_without_a_greater_one(self):
        lots = Lots.even(((0, 1), (0, 2), (1, 2)))
        self.assertFalse(is_pin(lots, (0, 1, 2)))
        self.assertEqual([is_pin(UNLIKE, (0, 3)), is_pin(UNLIKE, (3, 4)), is_pin(UNLIKE, (0, 3, 4))],
                         [True, True, False])

    def test_other_samples(self):
        self.assertEqual([HEAVY.weight_of((2,)), SINGLES.share_of((3,)), SIXTIES.weight_of((3,))],
                         [(11, 1), (42, 61), (2 * 10 ** 59 + 9 * 10 ** 59 - 10 ** 40 + 3, 1)])
