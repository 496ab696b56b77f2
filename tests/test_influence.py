"""The promises [11.1] to [11.7], and the functions of pinnedgaps.nearby.influence."""

from fractions import Fraction

from pinnedgaps.base.numbers import compared, grid_above
from pinnedgaps.errors import InvalidField, InvalidNumber, InvalidPin
from pinnedgaps.going.gaps import is_gap
from pinnedgaps.nearby import influence as module
from pinnedgaps.nearby.bounds import is_bound
from pinnedgaps.nearby.influence import (
    covariance, covariance_table, influence, influence_bound_table, influence_gap, influence_table, is_influence_bound,
    near_influence, open_places, row_bound)
from pinnedgaps.twostate.fields import field_lots, share
from tests.checks import Checks
from tests.exact import as_pair, as_pairs, exact, exact_rows, no_minus
from tests.examples import run_examples
from tests.samples import LONG, LONG_BOTTOM, ODD_VALUES, SIXTY
from tests.webs import (
    ALL, APART, BRANCH, COUPLE, FIVE, FOUR, FREE_FULL, FREE_NONE, FREE_RING, FULL, HARD, KIND, LINE, LONE, LONGS, MIXED,
    NO_FIELDS, NO_PINS, NO_PLACES, PARTS, RING, SIXTIES, SLACK, SMALL, STIFF, STILL, STRAIGHT, WHEEL, some_pins, web_of)

EXAMPLES = """
>>> [open_places(RING, {}), open_places(RING, {0: 1}), influence(RING, 0, 1, {}), influence(RING, 0, 2, {}), covariance(RING, 0, 1, {}), covariance(RING, 0, 0, {})]
[(0, 1, 2, 3), (2,), (-2, 5), (3, 10), (-4, 49), (10, 49)]
>>> influence_table(RING, {0: 0})
(((0, 1), (0, 1), (0, 1), (0, 1)), ((0, 1), (0, 1), (-1, 3), (1, 6)), ((0, 1), (-1, 2), (0, 1), (-1, 2)), ((0, 1), (1, 6), (-1, 3), (0, 1)))
>>> [influence_table(MIXED, {})[1], covariance_table(MIXED, {})[0], near_influence(MIXED, {}, 4), influence_gap(MIXED, 4)]
[((27, 85), (0, 1), (-27, 85)), ((6, 49), (12, 245), (-4, 147)), (11, 16), (63, 512)]
>>> [is_influence_bound(RING, {}, (11, 10)), is_influence_bound(RING, {}, 1), near_influence(RING, {}, 3), row_bound(RING, {}), row_bound(RING, {0: 1}), influence_gap(RING, 3)]
[True, False, (9, 8), (11, 10), (0, 1), (25, 512)]
>>> influence(RING, 0, 4, {})
raises InvalidNumber(4)
"""

BOUNDS = (-1, (-1, 5), 0, (1, 9), (1, 3), (2, 5), (7, 10), 1, (11, 10), (3, 2), 2, 5)
# Fields with pins that leave all kinds of places.
CASES = tuple((field, pins) for field in ALL for pins in some_pins(field)[:12])
NO_HALVINGS = ODD_VALUES + (-1, 31, (4, 1), RING)


class ExamplesTest(Checks):
    def test_examples(self):
        run_examples(self, ["pinnedgaps.nearby.influence"], EXAMPLES)

    def test_constants(self):
        self.assertEqual((module.MAX_PLACES, module.MAX_LISTED), (6, 4))


class OpenTest(Checks):
    def test_open_places(self):
        for field in ALL:
            web = web_of(field)
            for pins in some_pins(field):
                self.assertEqual(open_places(field, pins),
                                 tuple(place for place in range(field.size) if web.is_open(place, pins)))

    def test_edges(self):
        self.assertEqual([open_places(LONE, {}), open_places(LONE, {0: 0}), open_places(STILL, {}), open_places(STIFF, {}),
                          open_places(SLACK, {}), open_places(FREE_FULL, {3: 1}), open_places(FREE_FULL, {3: 0}),
                          open_places(APART, {}), open_places(FREE_NONE, {})],
                         [(0,), (), (), (1,), (), (), (0, 1, 2, 4, 5), (0, 1, 2, 3, 4, 5), ()])

    def test_all_places_pinned(self):
        for field in SMALL:
            for pins in web_of(field).pins(field.size):
                self.assertEqual(open_places(field, pins), ())

    def test_wrong_arguments(self):
        self.each_raises(InvalidPin, NO_PINS, lambda value: open_places(RING, value))
        for call in (open_places, influence_table, covariance_table, row_bound):
            self.refused_in_order(call, (RING, {}), ((None, InvalidField), (None, InvalidPin)))
            self.fields_are_refused_first(NO_FIELDS, ((call, ({},)),))


class PairsTest(Checks):
    def test_influences(self):
        for field, pins in CASES:
            web = web_of(field)
            rows = [[web.influence(i, j, pins) for j in range(field.size)] for i in range(field.size)]
            found = influence_table(field, pins)
            self.assert_fraction_rows(found)
            self.assertEqual(exact_rows(found), rows)

    def test_covariances(self):
        for field, pins in CASES:
            web = web_of(field)
            rows = [[web.covariance(i, j, pins) for j in range(field.size)] for i in range(field.size)]
            found = covariance_table(field, pins)
            self.assert_fraction_rows(found)
            self.assertEqual(exact_rows(found), rows)

    def test_one_by_one(self):
        for field in SMALL + (FIVE, BRANCH):
            for pins in some_pins(field)[:8]:
                places = range(field.size)
                self.assertEqual(influence_table(field, pins),
                                 tuple(tuple(influence(field, i, j, pins) for j in places) for i in places))
                self.assertEqual(covariance_table(field, pins),
                                 tuple(tuple(covariance(field, i, j, pins) for j in places) for i in places))

    def test_one_place(self):
        self.assertEqual([influence_table(LONE, {}), covariance_table(LONE, {}), covariance_table(STILL, {})],
                         [(((0, 1),),), (((6, 49),),), (((0, 1),),)])

    def test_pinned_places(self):
        for pins in ({0: 1}, {0: 0}, {0: 0, 2: 1}):
            for other in range(4):
                self.assertEqual([influence(RING, 0, other, pins), influence(RING, other, 0, pins),
                                  covariance(RING, 0, other, pins), covariance(RING, other, 0, pins)], [(0, 1)] * 4)

    def test_wrong_arguments(self):
        for call in (influence, covariance):
            self.each_refused_number(NO_PLACES + (4,), lambda value, call=call: call(RING, value, 0, {}))
            self.each_refused_number(NO_PLACES + (4,), lambda value, call=call: call(RING, 0, value, {}))
            self.each_raises(InvalidPin, NO_PINS, lambda value, call=call: call(RING, 0, 1, value))
            self.refused_in_order(call, (RING, 0, 1, {}), (
                (None, InvalidField), (4, InvalidNumber), (-1, InvalidNumber), ({0: 2}, InvalidPin)))
            self.fields_are_refused_first(NO_FIELDS, ((call, (0, 0, {})), (call, (None, None, None))))


class BoundsTest(Checks):
    def test_tables(self):
        for field, pins in CASES:
            web = web_of(field)
            for bound in BOUNDS[::3]:
                found = influence_bound_table(field, pins, bound)
                self.assert_fraction_rows(found)
                self.assertEqual(exact_rows(found), web.influence_bound_rows(pins, exact(bound)))

    def test_bounds(self):
        for field, pins in CASES:
            web = web_of(field)
            for bound in BOUNDS:
                wanted = no_minus(web.influence_bound_rows(pins, exact(bound)))
                self.assertIs(is_influence_bound(field, pins, bound), wanted)

    def test_near_influences(self):
        for field, pins in CASES[::2]:
            for halvings in (0, 3, 7):
                found = near_influence(field, pins, halvings)
                self.assert_fractions((found,))
                self.assertEqual((exact(found) * 2 ** halvings).denominator, 1)
                self.assertTrue(is_influence_bound(field, pins, found))
                self.assertGreaterEqual(found[0], 0)
                below = exact(found) - Fraction(1, 2 ** halvings)
                self.assertFalse(below >= 0 and is_influence_bound(field, pins, as_pair(below)))

    def test_most_halvings(self):
        for field in (RING, MIXED, LONE, FULL, SIXTIES):
            found = near_influence(field, {}, 30)
            self.assertTrue(is_influence_bound(field, {}, found))
            self.assertFalse(found[0] and is_influence_bound(field, {}, as_pair(exact(found) - Fraction(1, 2 ** 30))))
        self.assertEqual(near_influence(RING, {}, 30), grid_above((11, 10), 30))

    def test_no_open_place(self):
        for field, pins in ((STILL, {}), (SLACK, {}), (RING, {0: 1, 2: 1}), (LONE, {0: 1}), (FREE_NONE, {1: 0})):
            self.assertEqual([near_influence(field, pins, halvings) for halvings in (0, 30)], [(0, 1), (0, 1)])
            self.assertEqual([row_bound(field, pins), is_influence_bound(field, pins, -7)], [(0, 1), True])

    def test_one_open_place(self):
        for field, pins in ((LONE, {}), (STIFF, {}), (RING, {0: 1})):
            self.assertEqual(len(open_places(field, pins)), 1)
            self.assertEqual([near_influence(field, pins, 5), row_bound(field, pins)], [(0, 1), (0, 1)])
            self.assertEqual([is_influence_bound(field, pins, bound) for bound in ((-1, 10 ** 70), 0)], [False, True])

    def test_long_numbers(self):
        bound = (LONG, LONG_BOTTOM)
        self.assertIs(is_influence_bound(RING, {}, bound), compared(bound, (11, 10)) >= 0)
        self.assertEqual(exact_rows(influence_bound_table(LONGS, {}, bound)),
                         web_of(LONGS).influence_bound_rows({}, exact(bound)))
        self.assertEqual(influence_bound_table(STILL, {}, SIXTY), (((0, 1),),))

    def test_row_bounds(self):
        for field, pins in CASES:
            web = web_of(field)
            found = row_bound(field, pins)
            self.assert_fractions((found,))
            self.assertEqual(exact(found), max(
                sum(abs(web.influence(i, j, pins)) for j in range(field.size)) for i in range(field.size)))

    def test_wrong_arguments(self):
        for call in (influence_bound_table, is_influence_bound):
            self.each_refused_number([value for value in ODD_VALUES if repr(value) != "(0, 2)"] + ["0", RING],
                                     lambda value, call=call: call(RING, {}, value))
            self.refused_in_order(call, (RING, {}, 1), (
                (None, InvalidField), ({0: 2}, InvalidPin), ((2, 4), InvalidNumber)))
        self.each_refused_number(NO_HALVINGS, lambda value: near_influence(RING, {}, value))
        self.refused_in_order(near_influence, (RING, {}, 4), (
            (None, InvalidField), ({0: 2}, InvalidPin), (31, InvalidNumber)))
        self.fields_are_refused_first(NO_FIELDS, (
            (influence_bound_table, ({}, 0)), (is_influence_bound, ({}, 0)), (near_influence, ({}, 0)),
            (influence_gap, (0,)), (influence_gap, (31,))))
        for call in (influence_bound_table, is_influence_bound, near_influence):
            self.each_raises(InvalidPin, NO_PINS, lambda value, call=call: call(RING, value, 1))


class GapTest(Checks):
    def test_gaps_by_the_greatest_bounds(self):
        for field in SMALL:
            web = web_of(field)
            for halvings in (0, 4):
                wanted = Fraction(1, field.size)
                for count in range(field.size - 1):
                    greatest = max(exact(near_influence(field, pins, halvings)) for pins in web.pins(count))
                    wanted *= max(0, 1 - greatest / (field.size - count - 1))
                found = influence_gap(field, halvings)
                self.assert_fractions((found,))
                self.assertEqual(exact(found), wanted)

    def test_they_are_gaps(self):
        for field in SMALL:
            for halvings in (0, 3, 12):
                self.assertTrue(is_gap(field_lots(field), influence_gap(field, halvings)))

    def test_one_place(self):
        self.assertEqual([influence_gap(LONE, 0), influence_gap(STILL, 30)], [(1, 1), (1, 1)])

    def test_most_halvings(self):
        self.assertTrue(compared(influence_gap(RING, 3), influence_gap(RING, 30)) < 0)
        self.assertTrue(is_gap(field_lots(RING), influence_gap(RING, 30)))

    def test_a_factor_of_0(self):
        # With two places left the bound 1 of a coarse grid leaves no gap, as it must for a pair that moves as one.
        self.assertEqual([influence_gap(RING, 0), influence_gap(COUPLE, 0)], [(0, 1), (0, 1)])
        self.assertGreater(exact(influence_gap(RING, 2)), 0)

    def test_wrong_arguments(self):
        self.each_refused_number(NO_HALVINGS, lambda value: influence_gap(RING, value))
        self.each_refused_number(NO_HALVINGS, lambda value: influence_gap(FIVE, value))
        for field in (FIVE, PARTS, BRANCH, FULL, APART):
            self.too_many(4, influence_gap, field, 0)
        self.refused_in_order(influence_gap, (RING, 0), ((None, InvalidField), (31, InvalidNumber)))


class PromisesTest(Checks):
    def test_shares_by_influences(self):
        for field, pins in CASES:
            for i in open_places(field, pins):
                own = exact(share(field, i, pins))
                for j in range(field.size):
                    if i != j:
                        led = exact(influence(field, i, j, pins))
                        other = exact(share(field, j, pins))
                        self.assertEqual(exact(share(field, j, {**pins, i: 1})), other + (1 - own) * led)
                        self.assertEqual(exact(share(field, j, {**pins, i: 0})), other - own * led)

    def test_influences_and_covariances(self):
        for field, pins in CASES:
            led, both = exact_rows(influence_table(field, pins)), exact_rows(covariance_table(field, pins))
            for i in range(field.size):
                own = exact(share(field, i, pins))
                self.assertEqual(both[i][i], own * (1 - own))
                for j in range(field.size):
                    self.assertEqual(both[i][j], both[j][i])
                    if i != j:
                        self.assertEqual(led[i][j] * both[i][i], both[i][j])
                        self.assertTrue(led[i][j] * led[j][i] > 0 or led[i][j] == led[j][i] == 0)

    def test_row_bounds_are_influence_bounds(self):
        for field, pins in CASES:
            self.assertTrue(is_influence_bound(field, pins, row_bound(field, pins)))
            self.assertEqual(is_influence_bound(field, pins, (-1, 10 ** 65)), len(open_places(field, pins)) == 0)

    def test_bounds_of_local_walks(self):
        for field in SMALL:
            lots = field_lots(field)
            for count in range(field.size - 1):
                for pins in web_of(field).pins(count):
                    pin = tuple(sorted(2 * place + state for place, state in pins.items()))
                    left = field.size - count
                    for bound in (-1, (-1, 2), (-1, 3), (-1, left - 1), 0, (1, 7), (1, 5), (1, 3), (2, 5), (1, 2), 1):
                        bound = as_pair(exact(bound) if bound != (-1, 1) else Fraction(-1))
                        if open_places(field, pins):
                            of_field = is_influence_bound(field, pins, as_pair(exact(bound) * (left - 1)))
                            self.assertIs(is_bound(lots, pin, bound), of_field)
                        else:
                            self.assertIs(is_bound(lots, pin, bound), exact(bound) >= Fraction(-1, left - 1))

    def test_pinned_places_part_others(self):
        for field, pins, i, j in ((RING, {1: 0, 3: 0}, 0, 2), (LINE, {1: 1}, 0, 2), (KIND, {1: 0}, 2, 0),
                                  (BRANCH, {5: 1}, 2, 4), (BRANCH, {5: 0}, 0, 2), (STRAIGHT, {2: 1}, 1, 5),
                                  (FREE_RING, {0: 0, 3: 0}, 1, 5), (PARTS, {}, 0, 1), (PARTS, {}, 4, 3), (APART, {}, 2, 5)):
            self.assertEqual([influence(field, i, j, pins), influence(field, j, i, pins)], [(0, 1), (0, 1)])
        self.assertNotEqual(influence(RING, 0, 2, {1: 0}), (0, 1))

    def test_kind_ties(self):
        kind = [field for field in ALL if all(
            exact(table[0][0]) * exact(table[1][1]) >= exact(table[0][1]) * exact(table[1][0])
            for table in field.ties.values())]
        self.assertIn(KIND, kind)
        self.assertLess(len(kind), len(ALL))
        for field in kind:
            for pins in some_pins(field):
                self.assertTrue(all(entry[0] >= 0 for row in influence_table(field, pins) for entry in row))

    def test_influences_are_not_symmetric(self):
        self.assertNotEqual(influence(COUPLE, 0, 1, {}), influence(COUPLE, 1, 0, {}))
        self.assertNotEqual(influence(MIXED, 0, 1, {}), influence(MIXED, 1, 0, {}))

    def test_influences_are_no_products(self):
        self.assertNotEqual(exact(influence(RING, 0, 2, {})),
                            exact(influence(RING, 0, 1, {})) * exact(influence(RING, 1, 2, {})))

    def test_six_places(self):
        for field in (FULL, WHEEL, FREE_FULL):
            web = web_of(field)
            self.assertEqual(influence_table(field, {}), tuple(
                as_pairs(web.influence(i, j, {}) for j in range(6)) for i in range(6)))
            self.assertTrue(no_minus(web.influence_bound_rows({}, exact(near_influence(field, {}, 10)))))

    def test_hard_fields(self):
        self.assertEqual(influence(HARD, 0, 1, {}), as_pair(web_of(HARD).influence(0, 1, {})))
        self.assertEqual(influence(HARD, 0, 1, {2: 1}), (0, 1))
