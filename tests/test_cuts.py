"""The promises [14.1] to [14.5], and the functions of pinnedgaps.wood.cuts."""

from fractions import Fraction

from pinnedgaps.base.numbers import fraction
from pinnedgaps.errors import InvalidField, InvalidNumber, InvalidOrder
from pinnedgaps.twostate.fields import Field, share
from pinnedgaps.wood import cuts as module
from pinnedgaps.wood.cuts import (
    cut_stretch, cut_width, deepest, depth_enough, is_free_field, is_in_cut, narrow_bound, narrow_factor)
from pinnedgaps.wood.trees import plain_order, walk_to, walk_tree
from tests.checks import Checks
from tests.exact import as_pair, as_pairs, exact
from tests.examples import run_examples
from tests.samples import LONG, LONG_BOTTOM, ODD_VALUES, SIXTY
from tests.test_trees import NO_ORDERS, PLAIN
from tests.webs import (
    ALL, APART, BRANCH, COUPLE, FIVE, FREE_FULL, FREE_NONE, FREE_RING, FULL, HALF, HARD, KIND, LARGE, LINE, LONE, LONGS,
    MIXED, NO_FIELDS, NO_PLACES, RING, SIXTIES, SLACK, STIFF, STILL, STRAIGHT, all_ties, ring_ties, some_orders, web_of)

EXAMPLES = """
>>> PLAIN = ((1, 3), (0, 2), (1, 3), (0, 2))
>>> [cut_stretch(RING, 0, PLAIN, depth) for depth in range(5)]
[((0, 1), (1, 1)), ((0, 1), (1, 2)), ((1, 5), (1, 2)), ((1, 5), (4, 13)), ((2, 7), (2, 7))]
>>> [cut_stretch(MIXED, 1, ((1, 2), (0, 2), (0, 1)), depth) for depth in range(1, 4)]
[((1, 5), (9, 10)), ((49, 65), (169, 205)), ((17, 21), (17, 21))]
>>> [cut_width(RING, 0, PLAIN, 3), deepest(RING, 0, PLAIN), depth_enough(RING, 0, PLAIN, (1, 3)), depth_enough(RING, 0, PLAIN, 0), is_in_cut(RING, 0, PLAIN, 2, (2, 7)), is_in_cut(RING, 0, PLAIN, 2, 1)]
[(7, 65), 4, 2, 4, True, False]
>>> [is_free_field(RING), is_free_field(MIXED), narrow_factor(RING), narrow_bound(RING, 4), narrow_factor(Field.free(3, ((0, 1), (1, 2)), (1, 2)))]
[True, False, (1, 1), (2, 1), (1, 2)]
>>> narrow_bound(MIXED, 2)
raises Refused(('free',))
"""

NO_DEPTHS = ODD_VALUES + (-1, 31, (2, 1), RING)
FREE = (RING, HALF, HARD, FREE_RING, FREE_FULL, FREE_NONE, Field.free(1, (), 3), Field.free(2, ((0, 1),), (1, 9)),
        Field.free(6, (), (7, 3)), Field.free(5, ring_ties(5), (3, 10)), Field.free(6, all_ties(6), (1, 6)),
        Field.free(6, ((0, 1), (0, 2), (0, 3), (0, 4), (0, 5)), (1, 5)))
NOT_FREE = (
    MIXED, LINE, KIND, LONE, COUPLE, APART, Field(((2, 2), (2, 2)), {(0, 1): ((1, 1), (1, 0))}),
    Field(((1, 2), (1, 3)), {(0, 1): ((1, 1), (1, 0))}), Field(((1, 2), (1, 2)), {(0, 1): ((2, 2), (2, 0))}),
    Field(((1, 2), (1, 2)), {(0, 1): ((1, 1), (1, 1))}), Field(((1, 2), (1, 2)), {(0, 1): ((1, 2), (1, 0))}),
    Field(((1, 2), (1, 2)), {(0, 1): ((1, 1), (2, 0))}), Field(((2, 1),), {}),
    Field(((1, 2),) * 3, {(0, 1): ((1, 1), (1, 0)), (0, 2): ((1, 1), (1, (1, 2)))}))
CASES = tuple((field, place, order) for field in ALL for order in some_orders(field)[:1 if field in LARGE else 4]
              for place in range(0, field.size, 3 if field in LARGE else 1))


def stretch_of(web, nodes, depths, at, depth):
    """The least and the greatest ratio of a node by the words of [14.2]; None is endless."""
    if depths[at] == depth:
        return (Fraction(0), None)
    place = nodes[at][0]
    low = high = web.places[place][1] / web.places[place][0]
    for child, (other, parent, mark) in enumerate(nodes):
        if parent == at:
            t = web.weights_at(place, other)
            if mark is not None:
                factors = [t[1][mark] / t[0][mark]]
            else:
                factors = [t[1][1] / t[0][1] if ratio is None else (t[1][0] + t[1][1] * ratio) / (t[0][0] + t[0][1] * ratio)
                           for ratio in stretch_of(web, nodes, depths, child, depth)]
            low, high = low * min(factors), high * max(factors)
    return (low, high)


def shares_of(stretch):
    return as_pairs(Fraction(1) if ratio is None else ratio / (1 + ratio) for ratio in stretch)


class ExamplesTest(Checks):
    def test_examples(self):
        run_examples(self, ["pinnedgaps.wood.cuts"], EXAMPLES)

    def test_constants(self):
        self.assertEqual((module.MAX_CUT, module.LEAST_NARROW), (30, 2))


class StretchTest(Checks):
    def test_stretches(self):
        for field, place, order in CASES:
            if len(walk_tree(field, place, order, {})) < 300:
                web = web_of(field)
                nodes = walk_tree(field, place, order, {})
                depths = [len(walk_to(field, nodes, at)) - 1 for at in range(len(nodes))]
                for depth in range(max(depths) + 2):
                    found = cut_stretch(field, place, order, depth)
                    self.assert_fractions(found)
                    self.assertEqual(found, shares_of(stretch_of(web, nodes, depths, 0, depth)))
                self.assertEqual(deepest(field, place, order), max(depths))

    def test_shares_lie_within(self):
        for field, place, order in CASES:
            own = share(field, place, {})
            last = (Fraction(0), Fraction(1))
            for depth in range(9):
                low, high = (exact(end) for end in cut_stretch(field, place, order, depth))
                self.assertTrue(last[0] <= low <= exact(own) <= high <= last[1])
                self.assertTrue(is_in_cut(field, place, order, depth, own))
                last = (low, high)
            self.assertEqual(last, (exact(own), exact(own)))

    def test_depth_0(self):
        for field in ALL:
            self.assertEqual(cut_stretch(field, 0, plain_order(field), 0), ((0, 1), (1, 1)))

    def test_beyond_the_deepest_node(self):
        for field in (RING, LONE, STILL, FULL, LONGS):
            order = plain_order(field)
            own = share(field, 0, {})
            first = deepest(field, 0, order) + 1
            for depth in (first, first + 1, 29, 30):
                self.assertEqual(cut_stretch(field, 0, order, depth), (own, own))
                self.assertEqual(cut_width(field, 0, order, depth), (0, 1))

    def test_one_place(self):
        self.assertEqual([[cut_stretch(field, 0, ((),), depth) for depth in (0, 1)] for field in (LONE, STILL)],
                         [[((0, 1), (1, 1)), ((6, 7), (6, 7))], [((0, 1), (1, 1)), ((0, 1), (0, 1))]])
        self.assertEqual([deepest(LONE, 0, ((),)), deepest(APART, 3, ((),) * 6)], [0, 0])

    def test_open_nodes_of_places_that_cannot_have_the_state_1(self):
        # Nothing is known of an open node, not even what its weights tell.
        self.assertGreater(exact(cut_width(STIFF, 1, plain_order(STIFF), 1)), 0)
        self.assertEqual(cut_stretch(SLACK, 0, plain_order(SLACK), 1), ((0, 1), (0, 1)))

    def test_widths(self):
        for field, place, order in CASES[::3]:
            for depth in (0, 1, 2, 4, 30):
                low, high = cut_stretch(field, place, order, depth)
                self.assertEqual(cut_width(field, place, order, depth), as_pair(exact(high) - exact(low)))

    def test_the_ends_are_in_the_cut(self):
        for depth, inside, outside in (
                (0, (0, 1, (0, 1), (1, 1), (1, 2)), ((-1, 10 ** 70), (10 ** 70 + 1, 10 ** 70), -1, 2)),
                (2, ((1, 5), (1, 2), (2, 7), (1, 3)), ((10 ** 70, 5 * 10 ** 70 + 1), (10 ** 70 + 1, 2 * 10 ** 70), 0, 1)),
                (3, ((1, 5), (4, 13)), ((1, 3), (19, 100))), (30, ((2, 7),), ((LONG, 10 * LONG_BOTTOM), (1, 3)))):
            self.each_judged(True, inside, lambda value, depth=depth: is_in_cut(RING, 0, PLAIN, depth, value))
            self.each_judged(False, outside, lambda value, depth=depth: is_in_cut(RING, 0, PLAIN, depth, value))
        wrong = tuple(value for value in ODD_VALUES if repr(value) != "(0, 2)") + ("0", (True, 1), RING, [0], (0, 2))
        self.each_judged(False, wrong, lambda value: is_in_cut(RING, 0, PLAIN, 0, value))

    def test_wrong_arguments(self):
        calls = (cut_stretch, cut_width, lambda *arguments: is_in_cut(*arguments, None))
        for call in calls:
            self.each_refused_number(NO_DEPTHS, lambda value, call=call: call(RING, 0, PLAIN, value))
        for call in calls + (depth_enough,):
            self.each_refused_number(NO_PLACES + (4,), lambda value, call=call: call(RING, value, PLAIN, 0))
            self.each_raises(InvalidOrder, NO_ORDERS, lambda value, call=call: call(RING, 0, value, 0))
            self.fields_are_refused_first(NO_FIELDS, ((call, (0, PLAIN, 0)),))
        for call in (cut_stretch, cut_width, depth_enough):
            self.refused_in_order(call, (RING, 0, PLAIN, 0), (
                (None, InvalidField), (4, InvalidNumber), ((), InvalidOrder), (-1, InvalidNumber)))
        self.refused_in_order(deepest, (RING, 0, PLAIN), ((None, InvalidField), (4, InvalidNumber), ((), InvalidOrder)))
        self.refused_in_order(is_in_cut, (RING, 0, PLAIN, 0, None), (
            (None, InvalidField), (4, InvalidNumber), ((), InvalidOrder), (31, InvalidNumber)))
        self.fields_are_refused_first(NO_FIELDS, ((deepest, (0, PLAIN)),))
        self.each_refused_number(NO_PLACES, lambda value: deepest(RING, value, PLAIN))
        self.each_raises(InvalidOrder, NO_ORDERS, lambda value: deepest(RING, 0, value))


class EnoughTest(Checks):
    def test_least_depths(self):
        for field, place, order in CASES[::2]:
            widths = [exact(cut_width(field, place, order, depth)) for depth in range(8)]
            for width in (0, (1, 100), (1, 9), (1, 3), (9, 10), 1, 2, SIXTY, (1, 10 ** 80)):
                found = depth_enough(field, place, order, width)
                self.assertEqual(found, min(depth for depth in range(8) if widths[depth] <= exact(width)))

    def test_just_the_width(self):
        for depth in range(4):
            width = cut_width(RING, 0, PLAIN, depth)
            self.assertEqual(depth_enough(RING, 0, PLAIN, width), depth)
            self.assertEqual(depth_enough(RING, 0, PLAIN, as_pair(exact(width) - Fraction(1, 10 ** 70))), depth + 1)

    def test_widths_0_and_1(self):
        for field in ALL:
            order = plain_order(field)
            self.assertEqual(depth_enough(field, 0, order, 1), 0)
            self.assertIn(depth_enough(field, 0, order, 0), range(1, deepest(field, 0, order) + 2))
        self.assertEqual([depth_enough(LONE, 0, ((),), 0), depth_enough(LONE, 0, ((),), (99, 100))], [1, 1])

    def test_wrong_widths(self):
        self.each_refused_number([value for value in ODD_VALUES if repr(value) != "(0, 2)"] + [-1, (-1, 100), "1", RING],
                                 lambda value: depth_enough(RING, 0, PLAIN, value))


class FreeTest(Checks):
    def test_free_fields(self):
        self.each_judged(True, FREE, is_free_field)
        self.each_judged(False, NOT_FREE, is_free_field)
        self.assertTrue(is_free_field(Field(((1, 2), ((1, 1), (2, 1))), {(0, 1): (((1, 1), 1), (1, (0, 1)))})))
        self.fields_are_refused_first(NO_FIELDS, ((is_free_field, ()), (narrow_factor, ()), (narrow_bound, (2,)),
                                                  (narrow_bound, (None,))))

    def test_factors_and_bounds(self):
        for field in FREE:
            web = web_of(field)
            weight = web.places[0][1]
            most = max(len(web.beside(place)) for place in range(field.size))
            factor = weight * (most - 1) if most else Fraction(0)
            self.assertEqual(narrow_factor(field), as_pair(Fraction(factor)))
            for depth in (2, 3, 4, 7, 30):
                self.assertEqual(narrow_bound(field, depth), as_pair(most * weight * weight * factor ** (depth - 2)))

    def test_edges(self):
        none, pair = Field.free(6, (), (7, 3)), Field.free(2, ((0, 1),), (1, 9))
        self.assertEqual([narrow_factor(none), narrow_bound(none, 2), narrow_bound(none, 30)], [(0, 1)] * 3)
        self.assertEqual([narrow_factor(pair), narrow_bound(pair, 2), narrow_bound(pair, 3)], [(0, 1), (1, 81), (0, 1)])
        long = Field.free(3, all_ties(3), (LONG, LONG_BOTTOM))
        self.assertEqual([narrow_factor(long), narrow_bound(long, 2)],
                         [fraction(LONG, LONG_BOTTOM), fraction(2 * LONG ** 2, LONG_BOTTOM ** 2)])

    def test_others_are_refused(self):
        for field in NOT_FREE:
            self.refused_for(("free",), narrow_factor, field)
            self.refused_for(("free",), narrow_bound, field, 2)
            self.refused_number(1, narrow_bound, field, 1)

    def test_wrong_depths(self):
        self.each_refused_number(NO_DEPTHS + (0, 1), lambda value: narrow_bound(RING, value))
        self.each_refused_number(NO_DEPTHS + (0, 1), lambda value: narrow_bound(MIXED, value))
        self.refused_in_order(narrow_bound, (RING, 2), ((None, InvalidField), (1, InvalidNumber)))

    def test_bounds_hold(self):
        for field in FREE:
            for order in some_orders(field)[:1 if field.size == 6 else 3]:
                for place in range(0, field.size, 2 if field.size == 6 else 1):
                    for depth in (2, 3, 4, 5, 6, 8):
                        self.assertLessEqual(exact(cut_width(field, place, order, depth)), exact(narrow_bound(field, depth)))


class PromisesTest(Checks):
    def test_greater_depths_can_leave_the_width(self):
        found = [cut_stretch(SLACK, 0, plain_order(SLACK), depth) for depth in (1, 2)]
        self.assertEqual(found[0], found[1])
        self.assertEqual([cut_width(LONE, 0, ((),), depth) for depth in (1, 2)], [(0, 1), (0, 1)])

    def test_shares_are_not_in_the_middle(self):
        low, high = cut_stretch(RING, 0, PLAIN, 2)
        self.assertNotEqual(exact(low) + exact(high), 2 * exact(share(RING, 0, {})))

    def test_with_rings_and_without(self):
        for field in (FIVE, BRANCH, STRAIGHT, SIXTIES, LONGS, FREE_RING):
            for place in range(field.size):
                for depth in range(8):
                    self.assertTrue(is_in_cut(field, place, plain_order(field), depth, share(field, place, {})))
