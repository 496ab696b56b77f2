"""The promises [15.1] to [15.6], and the functions of pinnedgaps.twostate.totals."""

from fractions import Fraction
from itertools import combinations, product

from pinnedgaps.base.numbers import is_fraction
from pinnedgaps.errors import InvalidField, InvalidNumber, InvalidOperation, InvalidRow
from pinnedgaps.twostate import totals as module
from pinnedgaps.twostate.fields import Field, row_weight, rows_of, share
from pinnedgaps.twostate.totals import (
    free_number, free_numbers, free_total, left_field, pairing_field, pairing_number, row_share, shares_chain, total,
    total_by_places, total_by_shares, total_by_trees)
from pinnedgaps.wood.trees import plain_order, share_by_walks
from tests.checks import Checks
from tests.exact import as_pair, exact, product_of
from tests.examples import run_examples
from tests.samples import LONG, LONG_BOTTOM, ODD_VALUES
from tests.test_fields import NO_TIE_TUPLES
from tests.webs import (
    ALL, APART, FIVE, FREE_FULL, FREE_NONE, FULL, HARD, LARGE, LINE, LONE, LONGS, MIXED, NO_FIELDS, NO_PLACES, NO_ROWS,
    NO_STATES, RING, SIXTIES, SLACK, SMALL, STIFF, STILL, WHEEL, all_ties, ring_ties, web_of)

EXAMPLES = """
>>> [total(RING), total(MIXED), shares_chain(RING, (0, 0, 0, 0)), shares_chain(RING, (1, 0, 1, 0)), row_share(MIXED, (0, 1, 1)), shares_chain(MIXED, (0, 0, 0))]
[(7, 1), (105, 1), ((5, 7), (3, 5), (2, 3), (1, 2)), ((2, 7), (1, 1), (1, 2), (1, 1)), (1, 105), ((1, 7), (8, 15), (1, 2))]
>>> [total_by_shares(MIXED, (0, 1, 1)), total_by_trees(MIXED, (0, 0, 0)), total_by_trees(RING, (1, 0, 1, 0)), total_by_places(RING), total(left_field(RING, 0, 0))]
[(105, 1), (105, 1), (7, 1), (7, 1), (5, 1)]
>>> SQUARE = ((0, 1), (0, 3), (1, 2), (2, 3))
>>> [free_number(4, SQUARE), free_numbers(4, SQUARE), free_total(4, SQUARE, (1, 2)), pairing_number(4, SQUARE), pairing_number(4, ((0, 1), (0, 2), (0, 3), (1, 2), (1, 3), (2, 3)))]
[7, (1, 4, 2), (7, 2), 7, 10]
>>> shares_chain(RING, (1, 1, 0, 0))
raises InvalidRow
"""

BY_ROWS = (shares_chain, row_share, total_by_shares, total_by_trees)
SOME_WEBS = tuple((size, ties) for size in range(1, 5) for count in range(7)
                  for ties in combinations(all_ties(size), count)) + (
    (6, all_ties(6)), (6, ring_ties(6)), (6, ((0, 1), (2, 3), (4, 5))), (5, ring_ties(5)), (6, ()), (5, ((1, 4),)))


def some_rows(field):
    """Some rows of a weight above 0, the first and the last one among them."""
    rows = list(web_of(field).rows)
    return rows if field.size < 5 else rows[:1] + rows[1:-1:7] + rows[-1:]


def free_lots(size, ties):
    """All lots of places no two of which are tied."""
    return [lot for count in range(size + 1) for lot in combinations(range(size), count)
            if not any(set(tie) <= set(lot) for tie in ties)]


def pairings(ties):
    return [lot for count in range(len(ties) + 1) for lot in combinations(ties, count)
            if len({place for tie in lot for place in tie}) == 2 * len(lot)]


class ExamplesTest(Checks):
    def test_examples(self):
        run_examples(self, ["pinnedgaps.twostate.totals"], EXAMPLES)

    def test_constants(self):
        self.assertEqual(module.MAX_PAIRED, 6)


class TotalTest(Checks):
    def test_totals(self):
        for field in ALL:
            wanted = as_pair(Fraction(web_of(field).mass({})))
            self.assertTrue(is_fraction(total(field)))
            self.assertEqual(total(field), wanted)
            self.assertEqual(total_by_places(field), wanted)
            for row in some_rows(field)[:2 if field in LARGE else 64]:
                self.assertEqual([total_by_shares(field, row), total_by_trees(field, row)], [wanted, wanted])

    def test_one_place(self):
        for call in (total, total_by_places):
            self.assertEqual([call(LONE), call(STILL)], [(7, 2), (2, 1)])
        for call in (total_by_shares, total_by_trees):
            self.assertEqual([call(LONE, (0,)), call(LONE, (1,)), call(STILL, (0,))], [(7, 2), (7, 2), (2, 1)])

    def test_one_row_alone(self):
        self.assertEqual([total(SLACK), total_by_places(SLACK), total_by_trees(SLACK, (0, 0, 0)), shares_chain(SLACK, (0, 0, 0))],
                         [(6, 1), (6, 1), (6, 1), ((1, 1),) * 3])

    def test_wrong_fields(self):
        self.fields_are_refused_first(NO_FIELDS, ((total, ()), (total_by_places, ())) + tuple(
            (call, ((0, 0, 0, 0),)) for call in BY_ROWS) + ((shares_chain, (None,)), (total_by_trees, (None,))))


class ChainsTest(Checks):
    def test_chains(self):
        for field in ALL:
            web = web_of(field)
            for row in some_rows(field):
                wanted = [web.share(place, dict(enumerate(row[:place])), state) for place, state in enumerate(row)]
                found = shares_chain(field, row)
                self.assert_fractions(found)
                self.assertEqual(found, tuple(as_pair(number) for number in wanted))
                self.assertEqual(row_share(field, row), as_pair(web.weight(row) / web.mass({})))

    def test_products_of_chains(self):
        for field in ALL:
            for row in some_rows(field):
                self.assertEqual(exact(row_share(field, row)), product_of(map(exact, shares_chain(field, row))))
                self.assertEqual(exact(row_weight(field, row)), exact(row_share(field, row)) * exact(total(field)))

    def test_the_row_of_zeros(self):
        for field in ALL:
            self.assertGreater(row_share(field, (0,) * field.size)[0], 0)

    def test_wrong_rows(self):
        for call in BY_ROWS:
            self.each_raises(InvalidRow, NO_ROWS, lambda value, call=call: call(MIXED, value))
            self.each_raises(InvalidRow, ((1, 1, 0, 0), (1, 0, 0, 1), (1, 1, 1, 1)),
                             lambda value, call=call: call(RING, value))
            self.raised(InvalidRow, call, STILL, (1,))
            self.raised(InvalidRow, call, SLACK, (0, 1, 0))
            self.refused_in_order(call, (RING, (0, 1, 0, 1)), ((None, InvalidField), ((1, 1, 0, 0), InvalidRow)))


class LeftTest(Checks):
    def test_left_fields(self):
        for field in ALL:
            web = web_of(field)
            if field.size > 1:
                for place, state in product(range(field.size), (0, 1)):
                    if web.share(place, {}, state) > 0:
                        self.assert_left(field, web, place, state, left_field(field, place, state))
                    else:
                        self.raised(InvalidOperation, left_field, field, place, state)

    def assert_left(self, field, web, place, state, left):
        self.assertEqual(left.size, field.size - 1)
        new = {old: at for at, old in enumerate(old for old in range(field.size) if old != place)}
        self.assertEqual(left.ties, {(new[i], new[j]): table for (i, j), table in field.ties.items()
                                     if place not in (i, j)})
        for old, at in new.items():
            factors = web.weights_at(place, old)[state] if old in web.beside(place) else (1, 1)
            self.assertEqual([exact(weight) for weight in left.places[at]],
                             [weight * factor for weight, factor in zip(web.places[old], factors)])
        for row, weight in rows_of(left).items():
            whole = row[:place] + (state,) + row[place:]
            self.assertEqual(web.weight(whole), web.places[place][state] * exact(weight))
        for old, at in new.items():
            self.assertEqual(share(left, at, {}), share(field, old, {place: state}))

    def test_totals_of_left_fields(self):
        for field in SMALL + (FIVE, FULL):
            if field.size > 1:
                for place in range(field.size):
                    states = [state for state in (0, 1) if field.places[place][state][0] > 0]
                    self.assertEqual(exact(total(field)), sum(
                        exact(field.places[place][state]) * exact(total(left_field(field, place, state)))
                        for state in states))

    def test_samples(self):
        self.assertEqual(left_field(RING, 0, 1), Field(((1, 0), (1, 1), (1, 0)), {(0, 1): ((1, 1), (1, 0)),
                                                                                (1, 2): ((1, 1), (1, 0))}))
        self.assertEqual(left_field(MIXED, 1, 0), Field(((2, 2), (2, 2)), {(0, 1): ((1, 1), (2, 1))}))

    def test_wrong_arguments(self):
        self.each_refused_number(NO_PLACES + (4,), lambda value: left_field(RING, value, 0))
        self.each_refused_number(NO_STATES, lambda value: left_field(RING, 0, value))
        self.each_refused_number(NO_STATES, lambda value: left_field(LONE, 0, value))
        for state in (0, 1):
            self.raised(InvalidOperation, left_field, LONE, 0, state)
            self.raised(InvalidOperation, left_field, STILL, 0, state)
        for field, place in ((STIFF, 0), (STIFF, 2), (SLACK, 1), (FREE_NONE, 4), (FULL, 2)):
            self.raised(InvalidOperation, left_field, field, place, 1)
        self.refused_in_order(left_field, (RING, 0, 1), ((None, InvalidField), (4, InvalidNumber), (2, InvalidNumber)))
        self.fields_are_refused_first(NO_FIELDS, ((left_field, (0, 0)), (left_field, (None, None))))

    def test_chains_by_trees_of_walks(self):
        for field in (RING, MIXED, HARD, FIVE, LINE):
            row = some_rows(field)[-1]
            left, shares = field, []
            for state in row:
                one = exact(share_by_walks(left, 0, plain_order(left), {}))
                shares.append(one if state else 1 - one)
                left = left_field(left, 0, state) if left.size > 1 else left
            self.assertEqual(shares, [exact(number) for number in shares_chain(field, row)])


class FreeTest(Checks):
    def test_numbers(self):
        for size, ties in SOME_WEBS:
            lots = free_lots(size, ties)
            counts = [sum(len(lot) == many for lot in lots) for many in range(size + 1)]
            found = free_numbers(size, ties)
            self.assertEqual(found, tuple(count for count in counts if count))
            self.assertIs(type(found), tuple)
            self.assertEqual(free_number(size, ties), len(lots))

    def test_totals(self):
        for size, ties in SOME_WEBS:
            for weight in (0, 1, (1, 2), 7):
                found = free_total(size, ties, weight)
                self.assertTrue(is_fraction(found))
                self.assertEqual(exact(found), sum(exact(weight) ** len(lot) for lot in free_lots(size, ties)))
                self.assertEqual(found, total(Field.free(size, ties, weight)))

    def test_edges(self):
        self.assertEqual([free_numbers(1, ()), free_numbers(6, ()), free_numbers(6, all_ties(6)), free_number(6, ())],
                         [(1, 1), (1, 6, 15, 20, 15, 6, 1), (1, 6), 64])
        self.assertEqual([free_total(6, (), 0), free_total(1, (), (LONG, LONG_BOTTOM))],
                         [(1, 1), (LONG + LONG_BOTTOM, LONG_BOTTOM)])
        self.assertEqual(free_total(6, all_ties(6), 2), total(FREE_FULL))

    def test_wrong_arguments(self):
        for call in (free_number, free_numbers, pairing_field, pairing_number,
                     lambda size, ties: free_total(size, ties, 1)):
            self.each_refused_number(ODD_VALUES + (0, 7, -1, (3, 1)), lambda value, call=call: call(value, ((0, 1),)))
            self.each_raises(InvalidField, NO_TIE_TUPLES, lambda value, call=call: call(3, value))
            self.refused_in_order(call, (3, ((0, 1),)), ((7, InvalidNumber), (((0, 3),), InvalidField)))
        self.each_refused_number([value for value in ODD_VALUES if repr(value) != "(0, 2)"] + [-1, (-1, 2), "1", RING],
                                 lambda value: free_total(3, ((0, 1),), value))
        self.refused_in_order(free_total, (3, ((0, 1),), 1), (
            (0, InvalidNumber), (((1, 0),), InvalidField), (-1, InvalidNumber)))


class PairingsTest(Checks):
    def test_pairings(self):
        for size, ties in SOME_WEBS:
            if 1 <= len(ties) <= 6:
                self.assertEqual(pairing_number(size, ties), len(pairings(ties)))

    def test_fields(self):
        for size, ties in SOME_WEBS:
            if 1 <= len(ties) <= 6:
                met = tuple((i, j) for i, j in combinations(range(len(ties)), 2) if set(ties[i]) & set(ties[j]))
                self.assertEqual(pairing_field(size, ties), Field.free(len(ties), met, 1))

    def test_rows_are_pairings(self):
        for size, ties in ((4, all_ties(4)), (6, ring_ties(6)), (5, ring_ties(5)), (2, ((0, 1),))):
            lots = [tuple(tie for tie, state in zip(ties, row) if state) for row in rows_of(pairing_field(size, ties))]
            self.assertEqual(sorted(lots), sorted(pairings(ties)))

    def test_too_few_and_too_many_ties(self):
        for call in (pairing_field, pairing_number):
            for size, ties in ((1, ()), (6, ()), (6, all_ties(6)), (5, all_ties(5)[:7]), (6, all_ties(6)[:7])):
                self.raised(InvalidOperation, call, size, ties)
        self.assertEqual([pairing_number(2, ((0, 1),)), pairing_field(2, ((0, 1),)), pairing_number(6, all_ties(6)[:6])],
                         [2, Field.free(1, (), 1), len(pairings(all_ties(6)[:6]))])


class PromisesTest(Checks):
    def test_numbers_of_places_change_chains(self):
        turned = Field(MIXED.places[::-1], {
            (2 - j, 2 - i): tuple(zip(*table)) for (i, j), table in MIXED.ties.items()})
        self.assertEqual(total(turned), total(MIXED))
        self.assertNotEqual(sorted(shares_chain(MIXED, (0, 0, 0))), sorted(shares_chain(turned, (0, 0, 0))))

    def test_free_lots_and_pairings_are_not_as_many(self):
        self.assertNotEqual(free_number(4, all_ties(4)), pairing_number(4, all_ties(4)))
        self.assertEqual([free_number(4, all_ties(4)), pairing_number(4, all_ties(4))], [5, 10])

    def test_long_weights(self):
        for field in (LONGS, SIXTIES):
            wanted = as_pair(web_of(field).mass({}))
            self.assertEqual([total(field), total_by_places(field), total_by_trees(field, (0, 0, 0))], [wanted] * 3)

    def test_six_places(self):
        for field in (FULL, WHEEL, APART):
            row = some_rows(field)[-1]
            self.assertEqual(total_by_trees(field, row), as_pair(web_of(field).mass({})))
