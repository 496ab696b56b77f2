"""The promises [10.1] to [10.7], [0.19], and the functions of pinnedgaps.going.exchange."""

from itertools import product

from pinnedgaps.bags.lots import Lots
from pinnedgaps.bags.rows import even_weights, level_lots
from pinnedgaps.errors import InvalidOperation
from pinnedgaps.going.exchange import (
    cheapest_lots, double_exchanges, exchange_fault, exchange_path, exchanges, is_exchange_fault, is_exchange_path,
    is_pinned_fault, is_settled, lets_exchanges, pinned_fault)
from pinnedgaps.nearby.bounds import is_bound
from pinnedgaps.nearby.local import hangs_together
from tests.bags import (
    ALL, CHAIN, FORTY_FIVES, FORTY_PAIRS, FORTY_THREES, HEAVY, HINGE, NO_LOTS, NO_PINS, ONE, PAIR, PAIRS, SINGLE,
    SINGLES, SMALL, THREE, TWO, bag_of, small_families)
from tests.checks import Checks
from tests.exact import exact
from tests.examples import run_examples
from tests.samples import LONG, LONG_BOTTOM, ODD_VALUES, SIXTY
from tests.test_local import places_of

EXAMPLES = """
>>> [lets_exchanges(PAIRS), lets_exchanges(THREE), exchange_fault(PAIRS), exchanges(PAIRS, (0, 1), (2, 3), 0), double_exchanges(PAIRS, (0, 1), (2, 3))]
[True, True, None, (2, 3), ((0, 2), (0, 3), (1, 2), (1, 3))]
>>> CHAIN = Lots({(0, 1): 1, (1, 2): 5, (2, 3): 1})
>>> [lets_exchanges(CHAIN), is_exchange_fault(CHAIN, ((0, 1), (2, 3), 1)), is_exchange_fault(CHAIN, ((0, 1), (2, 3), 0)), exchange_path(CHAIN, (0, 1), (2, 3)), pinned_fault(CHAIN)]
[False, True, False, ((0, 1), (1, 2), (2, 3)), ()]
>>> [is_exchange_path(PAIRS, (0, 1), (2, 3), ((0, 1), (1, 2), (2, 3))), exchange_path(PAIRS, (0, 1), (0, 1)), is_pinned_fault(PAIRS, ())]
[True, ((0, 1),), False]
>>> [cheapest_lots(PAIRS, (3, 1, 1, 2, 0, 0, 0, 0)), is_settled(CHAIN, (0, 1), (0, 2, 3, -4, 0, 0, 0, 0)), cheapest_lots(CHAIN, (0, 2, 3, -4, 0, 0, 0, 0))]
[((1, 2),), True, ((2, 3),)]
>>> exchanges(PAIRS, (0, 1), (1, 2), 1)
raises InvalidOperation
"""

# There is no path from the first one of these lots to the last one.
NO_PATH = Lots.even(((0, 1, 2), (0, 3, 4), (1, 2, 3), (2, 3, 4), (4, 5, 6)))
# Links at all single things let exchanges, the lots do not.
LINKED = Lots.even(((0, 1, 2), (3, 4, 5)))
FAMILIES = list(small_families(4, 2)) + list(small_families(4, 3)) + list(small_families(5, 2))[::7]
FAMILIES += list(small_families(5, 3))[::7] + list(small_families(5, 4)) + list(small_families(3, 1))
NO_PRICES = ODD_VALUES + (
    (0,) * 7, (0,) * 9, [0] * 8, (0,) * 7 + (True,), (0,) * 7 + (None,), (0,) * 7 + ((2, 4),), (0,) * 7 + ([1],),
    (0,) * 7 + (10 ** 60,), (0,) * 7 + ("0",), (0,) * 7 + (PAIRS,), {at: 0 for at in range(8)}, PAIRS)


def left(one, other):
    return sorted(set(one) - set(other))


def swapped(lot, thing, taken):
    return tuple(sorted(set(lot) - {thing} | {taken}))


def taken_for(lots, one, other, thing):
    """By the words of [10.1]."""
    return tuple(taken for taken in left(other, one) if swapped(one, thing, taken) in lots.lots)


def faults_of(lots):
    return [(one, other, thing) for one in lots.lots for other in lots.lots for thing in left(one, other)
            if not taken_for(lots, one, other, thing)]


def prices_for(some):
    return [tuple(row) + (0,) * (8 - some) for row in product((0, 1, (1, 2)), repeat=some)]


class ExamplesTest(Checks):
    def test_examples(self):
        run_examples(self, ["pinnedgaps.bags.lots", "pinnedgaps.going.exchange"], EXAMPLES)


class FaultTest(Checks):
    def test_faults(self):
        for lots in ALL + tuple(FAMILIES):
            faults = faults_of(lots) if len(lots) < 20 else None
            found = exchange_fault(lots)
            self.assertIs(lets_exchanges(lots), found is None)
            self.assertIs(is_exchange_fault(lots, found), found is not None)
            if faults is not None:
                self.assertEqual(found is None, not faults)
            if found is not None:
                one, other, thing = found
                self.assertIn(thing, left(one, other))
                self.assertEqual(taken_for(lots, one, other, thing), ())

    def test_judged_faults(self):
        for lots in (CHAIN, THREE, TWO, HINGE):
            faults = faults_of(lots)
            for one in lots.lots:
                for other in lots.lots:
                    for thing in range(8):
                        self.assertIs(is_exchange_fault(lots, (one, other, thing)), (one, other, thing) in faults)

    def test_what_is_no_fault(self):
        one, other = (0, 1), (2, 3)
        self.each_judged(False, ODD_VALUES + (
            (one, other), (one, other, 1, 1), [one, other, 1], ([0, 1], other, 1), (one, [2, 3], 1), (one, other, True),
            (one, other, (1, 1)), (one, other, "1"), (one, other, None), (one, other, 8), (one, other, -1),
            (one, other, 3), ((0, True), other, 1), ((1, 0), other, 1), (one, (0, 3), 1), (None, other, 1),
            (one, other, [1]), (one, other, PAIRS), PAIRS, {}, (one, one, 1)), lambda value: is_exchange_fault(CHAIN, value))
        self.assertIs(is_exchange_fault(CHAIN, (one, other, 1)), True)

    def test_lots_that_let_exchanges(self):
        for things in range(1, 8):
            for size in range(1, 6):
                if things >= size:
                    self.assertIs(lets_exchanges(Lots.all_of(things, size)), True)
        for lots in (SINGLE, SINGLES, PAIR, ONE, FORTY_PAIRS):
            self.assertIs(lets_exchanges(lots), True)
        for lots in small_families(4, 1):
            self.assertIs(lets_exchanges(lots), True)

    def test_lots_that_let_none(self):
        for lots in (CHAIN, TWO, HINGE, FORTY_THREES, FORTY_FIVES, Lots({(0, 1): 1, (2, 3): 1})):
            self.assertIs(lets_exchanges(lots), False)


class ExchangesTest(Checks):
    def test_exchanges(self):
        for lots in (PAIRS, THREE, CHAIN, TWO, HINGE, ONE, SINGLES) + tuple(FAMILIES[::40]):
            for one in lots.lots:
                for other in lots.lots:
                    for thing in range(8):
                        if thing in left(one, other):
                            self.assertEqual(exchanges(lots, one, other, thing), taken_for(lots, one, other, thing))
                        else:
                            self.raised(InvalidOperation, exchanges, lots, one, other, thing)

    def test_double_exchanges(self):
        for lots in (PAIRS, THREE, CHAIN, TWO, HINGE, ONE, SINGLES) + tuple(FAMILIES[::40]):
            for one in lots.lots:
                for other in lots.lots:
                    wanted = tuple((x, y) for x in left(one, other) for y in left(other, one)
                                   if swapped(one, x, y) in lots.lots and swapped(other, y, x) in lots.lots)
                    self.assertEqual(double_exchanges(lots, one, other), wanted)
        self.assertEqual([double_exchanges(ONE, ONE.lots[0], ONE.lots[0]), double_exchanges(SINGLES, (0,), (7,))],
                         [(), ((0, 7),)])

    def test_wrong_things(self):
        wrong = ODD_VALUES + (-1, 8, (1, 1), (0, 1), PAIRS, [0], 2, 3)
        self.each_raises(InvalidOperation, wrong, lambda value: exchanges(PAIRS, (0, 1), (2, 3), value))

    def test_what_is_no_lot(self):
        wrong = NO_PINS + ((), (0,), (0, 4))
        for call, others in ((exchanges, (0,)), (exchange_path, ()), (double_exchanges, ()), (is_exchange_path, (None,))):
            self.each_raises(InvalidOperation, wrong,
                             lambda value, call=call, others=others: call(PAIRS, value, (0, 1), *others))
            self.each_raises(InvalidOperation, wrong,
                             lambda value, call=call, others=others: call(PAIRS, (0, 1), value, *others))
        self.each_raises(InvalidOperation, wrong, lambda value: is_settled(PAIRS, value, (0,) * 8))


class PathTest(Checks):
    def test_paths(self):
        for lots in (PAIRS, THREE, CHAIN, TWO, HINGE, ONE, SINGLES, NO_PATH, FORTY_THREES) + tuple(FAMILIES[::30]):
            for one in lots.lots[:12]:
                for other in lots.lots[:12]:
                    found = exchange_path(lots, one, other)
                    wanted = self.can_reach(lots, one, other)
                    self.assertEqual(found is not None, wanted)
                    self.assertIs(is_exchange_path(lots, one, other, found), wanted)
                    if wanted:
                        self.assert_path(lots, one, other, found)

    def can_reach(self, lots, one, other):
        reached = {one}
        for _ in left(one, other):
            reached = {lot for lot in lots.lots for ahead in reached if len(left(ahead, lot)) == 1
                       and len(left(lot, other)) == len(left(ahead, other)) - 1}
        return other in reached

    def assert_path(self, lots, one, other, path):
        self.assertEqual([path[0], path[-1], len(path)], [one, other, len(left(one, other)) + 1])
        for ahead, behind in zip(path, path[1:]):
            self.assertIn(behind, lots)
            self.assertEqual(len(left(ahead, behind)), 1)

    def test_judged_paths(self):
        for lots in (PAIRS, CHAIN, THREE):
            for one in lots.lots:
                for other in lots.lots:
                    for many in range(4):
                        for path in product(lots.lots, repeat=many):
                            wanted = (many == len(left(one, other)) + 1 and path[0] == one and path[-1] == other
                                      and all(len(left(x, y)) == 1 for x, y in zip(path, path[1:])))
                            self.assertIs(is_exchange_path(lots, one, other, path), wanted)

    def test_what_is_no_path(self):
        one, middle, other = (0, 1), (1, 2), (2, 3)
        self.each_judged(False, ODD_VALUES + (
            [one, middle, other], (one, other), (one, middle, middle, other), (one, [1, 2], other), (one, None, other),
            (one, (True, 2), other), (one, (2, 1), other), (one, (1, 4), other), (other, middle, one), (), (one,),
            (one, one, other), PAIRS, {}, (one, PAIRS, other)), lambda value: is_exchange_path(PAIRS, one, other, value))
        self.assertIs(is_exchange_path(PAIRS, one, other, (one, middle, other)), True)
        self.assertIs(is_exchange_path(PAIRS, one, one, (one,)), True)
        self.assertIs(is_exchange_path(PAIRS, one, one, (one, middle, one)), False)

    def test_samples(self):
        self.assertIsNone(exchange_path(TWO, (0, 1, 2), (3, 4, 5)))
        self.assertIsNone(exchange_path(NO_PATH, (0, 1, 2), (4, 5, 6)))
        for lots in (SINGLE, ONE, PAIR):
            self.assertEqual(exchange_path(lots, lots.lots[0], lots.lots[0]), lots.lots)
        # The only way is longer than a path: it takes things that neither lot has.
        around = Lots.even(((0, 1), (0, 4), (2, 4), (2, 3)))
        self.assertIsNone(exchange_path(around, (0, 1), (2, 3)))


class PinnedFaultTest(Checks):
    def test_pinned_faults(self):
        for lots in SMALL + tuple(FAMILIES):
            even = even_weights(lots)
            faults = [pin for pin in places_of(even)
                      if not hangs_together(even, pin) or not bag_of(even).link(pin).has_bound(0)]
            found = pinned_fault(lots)
            self.assertEqual(found is None, not faults)
            self.assertTrue(found is None or found in faults)
            for pin in places_of(lots):
                self.assertIs(is_pinned_fault(lots, pin), pin in faults)

    def test_what_is_no_pinned_fault(self):
        self.each_judged(False, NO_PINS + ((0,), (1, 2), (0, 1), (0, 2)), lambda value: is_pinned_fault(CHAIN, value))
        self.assertIs(is_pinned_fault(CHAIN, ()), True)
        self.each_judged(False, ((), (7,), None, (1,)), lambda value: is_pinned_fault(SINGLE, value))
        self.assertIsNone(pinned_fault(SINGLES))

    def test_weights_are_left_out_of_sight(self):
        self.assertIs(is_bound(HEAVY, (), 0), False)
        self.assertEqual([pinned_fault(HEAVY), is_pinned_fault(HEAVY, ()), lets_exchanges(HEAVY)], [None, False, True])

    def test_forty_lots(self):
        for lots in (FORTY_THREES, FORTY_FIVES):
            self.assertIs(is_pinned_fault(lots, pinned_fault(lots)), True)
        self.assertIsNone(pinned_fault(FORTY_PAIRS))


class CheapestTest(Checks):
    def test_cheapest_lots(self):
        for lots in (PAIRS, THREE, CHAIN, TWO, ONE, SINGLES, FORTY_FIVES):
            for prices in ((0,) * 8, (3, 1, 1, 2, 0, 5, (1, 2), -1), (-SIXTY, (1, 3), 0, 7, 7, 7, 7, 7),
                           ((LONG, LONG_BOTTOM), (-LONG, LONG_BOTTOM), 1, 1, 2, 2, (-1, 2), 0)):
                sums = {lot: sum(exact(prices[thing]) for thing in lot) for lot in lots.lots}
                wanted = tuple(lot for lot in lots.lots if sums[lot] == min(sums.values()))
                self.assertEqual(cheapest_lots(lots, prices), wanted)
                for lot in lots.lots:
                    beside = [other for other in lots.lots if len(left(lot, other)) == 1]
                    self.assertIs(is_settled(lots, lot, prices), all(sums[other] >= sums[lot] for other in beside))

    def test_wrong_prices(self):
        self.each_raises(InvalidOperation, NO_PRICES, lambda value: cheapest_lots(PAIRS, value))
        self.each_raises(InvalidOperation, NO_PRICES, lambda value: is_settled(PAIRS, (0, 1), value))

    def test_settled_lots_are_cheapest_ones_if_exchanges_are_let(self):
        for lots in FAMILIES:
            many = lots.things[-1] + 1
            if many > 4:
                continue
            fine = all((lot in cheapest_lots(lots, prices)) == is_settled(lots, lot, prices)
                       for prices in prices_for(many) for lot in lots.lots)
            self.assertEqual(fine, lets_exchanges(lots), lots.lots)

    def test_forty_lots(self):
        prices = (3, (1, 2), -1, 4, 0, (5, 7), 2, 9)
        for lot in FORTY_PAIRS.lots:
            self.assertEqual(is_settled(FORTY_PAIRS, lot, prices), lot in cheapest_lots(FORTY_PAIRS, prices))


class RefusedTest(Checks):
    def test_wrong_lots(self):
        calls = [(call, ()) for call in (lets_exchanges, exchange_fault, pinned_fault)]
        calls += [(call, (None,)) for call in (is_exchange_fault, is_pinned_fault, cheapest_lots)]
        calls += [(call, (None, None)) for call in (exchange_path, double_exchanges, is_settled)]
        calls += [(call, (None, None, None)) for call in (exchanges, is_exchange_path)]
        self.lots_are_refused_first(NO_LOTS, calls)


class PromisesTest(Checks):
    def test_exchanges_are_told_by_local_walks(self):
        for lots in FAMILIES:
            walks = all(hangs_together(lots, pin) and is_bound(lots, pin, 0) for pin in places_of(lots))
            self.assertEqual(lets_exchanges(lots), walks)
            self.assertEqual(lets_exchanges(lots), pinned_fault(lots) is None)

    def test_paths_between_any_two_lots_that_let_exchanges(self):
        for lots in FAMILIES + [FORTY_PAIRS]:
            if lets_exchanges(lots):
                for one in lots.lots[::3]:
                    for other in lots.lots:
                        self.assertIsNotNone(exchange_path(lots, one, other))

    def test_double_exchanges_for_each_thing(self):
        for lots in FAMILIES:
            if lets_exchanges(lots):
                for one in lots.lots:
                    for other in lots.lots:
                        found = double_exchanges(lots, one, other)
                        self.assertEqual(sorted({thing for thing, _ in found}), left(one, other))

    def test_links_and_levels_let_exchanges_too(self):
        for lots in FAMILIES + [FORTY_PAIRS, Lots.all_of(7, 3)]:
            if lets_exchanges(lots):
                for size in range(lots.size):
                    self.assertTrue(all(lets_exchanges(lots.link(pin)) for pin in lots.pins(size)))
                for size in range(1, lots.size + 1):
                    self.assertTrue(lets_exchanges(level_lots(lots, size)))

    def test_paths_do_not_let_exchanges(self):
        self.assertTrue(all(exchange_path(CHAIN, one, other) for one in CHAIN.lots for other in CHAIN.lots))
        self.assertFalse(lets_exchanges(CHAIN))

    def test_links_do_not_let_exchanges(self):
        self.assertTrue(all(lets_exchanges(LINKED.link((thing,))) for thing in LINKED.things))
        self.assertFalse(lets_exchanges(LINKED))
