"""The promises [5.1] to [5.6], and the functions of pinnedgaps.nearby.local."""

from itertools import combinations

from pinnedgaps.bags.lots import Lots, scaled_to
from pinnedgaps.errors import InvalidOperation, InvalidPin
from pinnedgaps.nearby.local import (
    hangs_together, is_parting, link_things, local_walk, masses, pair_weights, parting, pieces, walk_shares)
from tests.bags import (
    ALL, CHAIN, FORTY_FIVES, HINGE, LONGS, NO_LOTS, NO_PINS, ONE, PAIR, PAIRS, SINGLE, SINGLES, SIXTIES, SMALL, THREE,
    TWO, UNLIKE, bag_of)
from tests.checks import Checks
from tests.exact import as_pair, exact, exact_rows
from tests.examples import run_examples
from tests.samples import LONG, LONG_BOTTOM, ODD_VALUES, SIXTY

EXAMPLES = """
>>> [link_things(THREE, (1,)), pair_weights(THREE, ()), masses(THREE, ()), walk_shares(THREE, (1,))]
[(0, 2, 3), {(0, 1): (2, 1), (0, 2): (2, 1), (0, 3): (2, 1), (1, 2): (1, 1), (1, 3): (1, 1), (2, 3): (1, 1)}, {0: (6, 1), 1: (4, 1), 2: (4, 1), 3: (4, 1)}, ((1, 2), (1, 4), (1, 4))]
>>> [local_walk(THREE, (1,)), local_walk(THREE, ())[1], hangs_together(THREE, ()), parting(THREE, ())]
[(((0, 1), (1, 2), (1, 2)), ((1, 1), (0, 1), (0, 1)), ((1, 1), (0, 1), (0, 1))), ((1, 2), (0, 1), (1, 4), (1, 4)), True, None]
>>> TWO = Lots({(0, 1, 2): 1, (3, 4, 5): 2})
>>> [hangs_together(TWO, ()), hangs_together(TWO, (0,)), pieces(TWO, ()), is_parting(TWO, (), (3, 4, 5)), is_parting(TWO, (), (0, 1)), masses(TWO, ())[3]]
[False, True, ((0, 1, 2), (3, 4, 5)), True, False, (4, 1)]
>>> pieces(PAIRS, (0,))
raises InvalidOperation
"""

PINNED_CALLS = (link_things, pair_weights, masses, local_walk, walk_shares, hangs_together, pieces, parting)


def places_of(lots):
    """The pins of the lots that have a local walk."""
    return [pin for size in range(lots.size - 1) for pin in lots.pins(size)]


class ExamplesTest(Checks):
    def test_examples(self):
        run_examples(self, ["pinnedgaps.bags.lots", "pinnedgaps.nearby.local"], EXAMPLES)


class WalkTest(Checks):
    def test_things_pairs_and_masses(self):
        for lots in ALL:
            bag = bag_of(lots)
            for pin in places_of(lots):
                link = bag.link(pin)
                things = link.things()
                rows = link.pair_rows()
                self.assertEqual(link_things(lots, pin), tuple(things))
                found = pair_weights(lots, pin)
                self.assertEqual(list(found), [pair for pair in combinations(things, 2) if link.weight(*pair)])
                self.assertEqual(found, {pair: as_pair(link.weight(*pair)) for pair in found})
                self.assert_fractions(found.values())
                self.assertEqual(masses(lots, pin),
                                 {thing: as_pair(sum(row)) for thing, row in zip(things, rows)})
                self.assertEqual(list(masses(lots, pin)), things)

    def test_chances_and_shares(self):
        for lots in ALL:
            bag = bag_of(lots)
            for pin in places_of(lots):
                rows = bag.link(pin).pair_rows()
                sums = [sum(row) for row in rows]
                self.assertEqual(local_walk(lots, pin),
                                 tuple(tuple(as_pair(x / sum(row)) for x in row) for row in rows))
                self.assertEqual(walk_shares(lots, pin), tuple(as_pair(x / sum(sums)) for x in sums))
                self.assert_fraction_rows(local_walk(lots, pin) + (walk_shares(lots, pin),))

    def test_a_link_of_one_pair(self):
        self.assertEqual([link_things(PAIR, ()), pair_weights(PAIR, ()), masses(PAIR, ()), local_walk(PAIR, ())],
                         [(3, 6), {(3, 6): (5, 1)}, {3: (5, 1), 6: (5, 1)}, (((0, 1), (1, 1)), ((1, 1), (0, 1)))])
        self.assertEqual([walk_shares(ONE, (0, 3, 7)), pieces(ONE, (0, 3, 7)), parting(ONE, (0, 3, 7))],
                         [((1, 2), (1, 2)), ((2, 5),), None])

    def test_long_weights(self):
        self.assertEqual(masses(LONGS, ())[0], as_pair(exact((LONG, LONG_BOTTOM)) + exact((1, LONG_BOTTOM))))
        self.assertEqual(pair_weights(SIXTIES, (0,))[(1, 2)], (SIXTY, 1))
        self.assertEqual(pair_weights(SIXTIES, ())[(0, 1)], (2 * SIXTY - 10 ** 40, 1))


class PiecesTest(Checks):
    def test_pieces(self):
        for lots in ALL:
            bag = bag_of(lots)
            for pin in places_of(lots):
                link = bag.link(pin)
                found = pieces(lots, pin)
                self.assertEqual(sorted(thing for piece in found for thing in piece), link.things())
                self.assertEqual(list(found), sorted(found))
                for piece in found:
                    self.assertEqual(piece, tuple(sorted(piece)))
                    beside = {y for x in piece for y in link.things() if x != y and link.weight(x, y)}
                    self.assertTrue(beside <= set(piece))
                    self.assertEqual(self.reached_from(piece[0], link), set(piece))
                self.assertIs(hangs_together(lots, pin), len(found) == 1)

    def reached_from(self, start, link):
        reached = {start}
        for _ in link.things():
            reached |= {y for x in reached for y in link.things() if x != y and link.weight(x, y)}
        return reached

    def test_four_pieces(self):
        lots = Lots({(0, 7): 1, (1, 6): 2, (2, 5): 3, (3, 4): 4})
        self.assertEqual(pieces(lots, ()), ((0, 7), (1, 6), (2, 5), (3, 4)))
        self.assertEqual(pieces(HINGE, (0,)), ((1, 2), (3, 4)))
        self.assertEqual([hangs_together(HINGE, ()), hangs_together(HINGE, (0,)), hangs_together(HINGE, (1,))],
                         [True, False, True])

    def test_partings(self):
        for lots in SMALL:
            for pin in places_of(lots):
                found = parting(lots, pin)
                self.assertEqual(found is None, hangs_together(lots, pin))
                self.assertIs(is_parting(lots, pin, found), found is not None)

    def test_judged_partings(self):
        for lots in (PAIRS, THREE, TWO, HINGE, CHAIN, Lots({(0, 7): 1, (1, 6): 2, (2, 5): 3, (3, 4): 4})):
            for pin in places_of(lots):
                whole = [set(piece) for piece in pieces(lots, pin)]
                things = set(link_things(lots, pin))
                for size in range(6):
                    for some in combinations(range(8), size):
                        wanted = (0 < size < len(things) and set(some) <= things
                                  and all(piece <= set(some) or not piece & set(some) for piece in whole))
                        self.assertIs(is_parting(lots, pin, some), wanted)

    def test_what_is_no_parting(self):
        self.each_judged(False, ODD_VALUES + (
            (0, 1, 2, 3, 4, 5), (2, 1, 0), [0, 1, 2], (0, 1), (0, 1, 2, 6), (0, 1, 2, 3), (0, 1, 1, 2), (False, 1, 2),
            (0, True, 2), {0: 1}, ((0, 1, 2),), 0, PAIRS, (6,), (6, 7), (0, 1, [2])),
            lambda value: is_parting(TWO, (), value))
        self.assertIs(is_parting(TWO, (), (0, 1, 2)), True)


class RefusedTest(Checks):
    def test_wrong_lots(self):
        self.lots_are_refused_first(NO_LOTS, [(call, ((),)) for call in PINNED_CALLS]
                                    + [(call, ("no pin",)) for call in PINNED_CALLS]
                                    + [(is_parting, ((), (0,))), (is_parting, ("no pin", None))])

    def test_wrong_pins(self):
        for call in PINNED_CALLS:
            self.each_raises(InvalidPin, NO_PINS, lambda value, call=call: call(PAIRS, value))
        self.each_raises(InvalidPin, NO_PINS, lambda value: is_parting(PAIRS, value, (0,)))

    def test_too_great_pins(self):
        for lots in SMALL:
            for size in (lots.size - 1, lots.size):
                for pin in lots.pins(size):
                    for call in PINNED_CALLS:
                        self.raised(InvalidOperation, call, lots, pin)
                    self.raised(InvalidOperation, is_parting, lots, pin, (0,))
                    self.raised(InvalidOperation, is_parting, lots, pin, "no parting")

    def test_lots_of_one_thing_have_no_local_walk(self):
        for lots in (SINGLE, SINGLES):
            self.raised(InvalidOperation, pieces, lots, ())
            self.raised(InvalidPin, pieces, lots, (1,))


class PromisesTest(Checks):
    def test_masses(self):
        for lots in ALL:
            for pin in places_of(lots):
                found = masses(lots, pin)
                left = lots.size - len(pin)
                self.assertGreaterEqual(len(found), 2)
                for thing, mass in found.items():
                    with_thing = tuple(sorted(pin + (thing,)))
                    self.assertGreater(mass[0], 0)
                    self.assertEqual(exact(mass), (left - 1) * exact(lots.weight_of(with_thing)))
                self.assertEqual(sum(exact(mass) for mass in found.values()),
                                 left * (left - 1) * exact(lots.weight_of(pin)))

    def test_balance(self):
        for lots in SMALL + (SIXTIES, FORTY_FIVES):
            for pin in places_of(lots):
                rows = exact_rows(local_walk(lots, pin))
                weights = [exact(mass) for mass in masses(lots, pin).values()]
                for i, row in enumerate(rows):
                    self.assertEqual([row[i], sum(row)], [0, 1])
                    for j, chance in enumerate(row):
                        self.assertEqual(weights[i] * chance, weights[j] * rows[j][i])

    def test_no_chance_hangs_on_one_number_for_all_weights(self):
        for lots in SMALL:
            other = scaled_to(lots, (LONG_BOTTOM, LONG))
            for pin in places_of(lots):
                self.assertEqual(local_walk(lots, pin), local_walk(other, pin))
                self.assertEqual(walk_shares(lots, pin), walk_shares(other, pin))

    def test_the_walk_at_a_pin_is_that_of_the_link(self):
        for lots in SMALL + (LONGS, SIXTIES):
            for pin in places_of(lots):
                link = lots.link(pin)
                for call in PINNED_CALLS:
                    self.assertEqual(call(lots, pin), call(link, ()))

    def test_one_thing_more(self):
        for lots in SMALL + (SIXTIES,):
            for pin in places_of(lots):
                if len(pin) <= lots.size - 3:
                    self.assert_one_thing_more(lots, pin)

    def assert_one_thing_more(self, lots, pin):
        found = pair_weights(lots, pin)
        for pair in combinations(link_things(lots, pin), 2):
            further = 0
            for thing in link_things(lots, pin):
                if thing not in pair:
                    beside = pair_weights(lots, tuple(sorted(pin + (thing,))))
                    further += exact(beside.get(pair, 0))
            self.assertEqual(exact(found.get(pair, 0)) * (lots.size - len(pin) - 2), further)

    def test_partings_have_whole_pieces(self):
        for some in ((0,), (0, 1), (1, 2), (0, 3), (0, 1, 2, 3)):
            self.assertFalse(is_parting(TWO, (), some))

    def test_walks_that_hang_together_at_greater_pins_alone(self):
        self.assertTrue(all(hangs_together(TWO, (thing,)) for thing in TWO.things))
        self.assertFalse(hangs_together(TWO, ()))

    def test_walks_that_fall_apart_at_a_greater_pin(self):
        self.assertTrue(hangs_together(HINGE, ()))
        self.assertFalse(hangs_together(HINGE, (0,)))

    def test_samples(self):
        self.assertEqual(walk_shares(UNLIKE, ())[0], as_pair(
            2 * exact(UNLIKE.weight_of((0,))) / (6 * exact(UNLIKE.total))))
