"""The promises [12.1] to [12.5], and what pinnedgaps.twostate.fields has."""

from fractions import Fraction
from itertools import permutations, product
from math import prod

from pinnedgaps.errors import InvalidField, InvalidNumber, InvalidOperation, InvalidPin, InvalidRow
from pinnedgaps.nearby.influence import influence
from pinnedgaps.twostate import fields as module
from pinnedgaps.twostate.fields import (
    Field, field_lots, is_field_data, is_pins, is_tree, row_weight, rows_of, share, sums_towards, way_influence)
from tests.bags import PAIRS
from tests.checks import Checks
from tests.exact import as_pair, as_pairs, exact
from tests.examples import run_examples
from tests.samples import LONG, LONG_BOTTOM, ODD_VALUES, SIXTY, SIXTY_ONE
from tests.webs import (
    ALL, APART, BRANCH, COUPLE, FIVE, FOUR, FREE_FULL, FREE_NONE, FULL, KIND, LINE, LONE, LONGS, LOOSE, MIXED, NO_FIELDS,
    NO_PINS, NO_PLACES, NO_ROWS, PARTS, RING, RINGS, SIXTIES, SLACK, SMALL, STIFF, STILL, STRAIGHT, TREES, all_ties,
    ring_ties, some_pins, web_of)

EXAMPLES = """
>>> LINE = Field(((1, 1), (1, 2), (1, 1)), {(0, 1): ((1, 2), (1, 1)), (1, 2): ((1, 1), (1, 3))})
>>> [row_weight(MIXED, (1, 1, 0)), rows_of(LINE)[(0, 1, 1)], len(rows_of(RING)), share(RING, 0, {}), share(MIXED, 1, {}), share(MIXED, 1, {0: 1})]
[(72, 1), (12, 1), 7, (2, 7), (17, 21), (13, 15)]
>>> [RING.neighbours(0), MIXED.weights_at(1, 0), str(RING), is_tree(LINE), is_tree(RING), is_pins(RING, {0: 1, 1: 1}), field_lots(LINE).size]
[(1, 3), (((2, 1), (1, 1)), ((1, 1), (3, 1))), 'field of 4 places, 4 ties', True, False, False, 3]
>>> [sums_towards(LINE, 0), way_influence(LINE, 0, 2)]
[(((18, 1), (10, 1)), ((2, 1), (8, 1)), ((1, 1), (1, 1))), (-1, 45)]
>>> field_lots(Field.free(5, (), 1))
raises TooMany(8)
"""

ONES = ((1, 1), (1, 1))
EVEN = ((1, 1), (1, 1))
ODD_PAIRS = ODD_VALUES + (
    (0, 1), ((0, 1), 1), (-1, 1), (1, -1), (1, (-1, 2)), (1, (2, 4)), ((2, 4), 1), (1, True), (True, 1), (1, None),
    (1,), (1, 1, 1), [1, 1], (1, SIXTY_ONE), (1, [1]), (1, {}), ("1", "1"), (1, RING), RING, {0: 1, 1: 1}, (0, 0))
# Some of the odd values are pairs of weights.
NO_PLACE_PAIRS = tuple(value for value in ODD_PAIRS if repr(value) not in ("(1, 0)", "(2, 4)", "((1, 2), 3)"))
NO_TIE_TABLES = ODD_PAIRS + (
    ((1, 1), (1, -1)), ((0, 1), (1, 1)), ((1, 0), (1, 1)), ((1, 1), (0, 1)), ((1, 1), (0, 0)), ((1, 1),),
    ((1, 1), (1, 1), (1, 1)), ((1, 1, 1), (1, 1)), ((1, 1), (1,)), [(1, 1), (1, 1)], ([1, 1], (1, 1)), ((1, 1), [1, 1]),
    ((1, 1), (1, True)), ((1, (2, 4)), (1, 1)), ((1, SIXTY_ONE), (1, 1)), ((1, -1), (1, 1)), ((1, 1), (-1, 1)),
    (1, 1, 1, 1), ((1, 1), None), (None, (1, 1)), (((1, 1), (1, 1)), (1, (-1, 3))))
NO_TIES = (
    None, True, 0, (), [], "", ((0, 1),), (((0, 1), EVEN),), [((0, 1), EVEN)], PAIRS, RING,
    {(0, 0): EVEN}, {(1, 0): EVEN}, {(0, 2): EVEN}, {(-1, 0): EVEN}, {(0,): EVEN}, {(0, 1, 1): EVEN}, {0: EVEN},
    {"01": EVEN}, {(False, 1): EVEN}, {(0, True): EVEN}, {None: EVEN}, {(0, None): EVEN}, {(0, (1, 1)): EVEN},
    {(0, 1): EVEN, (1, 2): EVEN}, {(0, 1): EVEN, 7: 7}, {((0, 1), (0, 1)): EVEN}, {(0, SIXTY_ONE): EVEN},
) + tuple({(0, 1): table} for table in NO_TIE_TABLES)
NO_PLACES_DATA = (
    ODD_VALUES[:8] + ((), (1, 1), ONES * 3 + ((1, 1),), [(1, 1)], {0: (1, 1)}, ((1, 1), (0, 1)), PAIRS, RING, "ab", 7)
    + tuple(((1, 1), pair) for pair in NO_PLACE_PAIRS) + tuple((pair, (1, 1)) for pair in NO_PLACE_PAIRS))
NO_TIE_TUPLES = tuple(value for value in ODD_VALUES if value != ()) + (
    ((0, 1), (0, 1)), ((1, 2), (0, 1)), ((0, 2), (0, 1)), ((1, 0),), ((0, 0),), ((0, 3),), ((-1, 1),), ((0, 1, 2),),
    ((0,),), (0, 1), [(0, 1)], ([0, 1],), ((0, True),), ((False, 1),), ((0, None),), ("01",), {(0, 1): EVEN}, RING,
    ((0, 1), None), ((0, (1, 1)),), ((0, 1), (1, 2), (1, 2)), (((0, 1),),), ((0, SIXTY_ONE),), (RING,), ((0, [1]),))


class ExamplesTest(Checks):
    def test_examples(self):
        run_examples(self, ["pinnedgaps.twostate.fields"], EXAMPLES)

    def test_constants(self):
        self.assertEqual((module.MAX_PLACES, module.MAX_THINGS), (6, 8))


class MadeTest(Checks):
    def test_properties(self):
        field = Field(((1, (3, 2)), ((4, 1), 0)), {(0, 1): ((1, 2), ((1, 3), (0, 1)))})
        self.assertEqual([field.size, field.places, field.ties],
                         [2, (((1, 1), (3, 2)), ((4, 1), (0, 1))), {(0, 1): (((1, 1), (2, 1)), ((1, 3), (0, 1)))}])
        self.assertIs(type(field.places), tuple)
        for field in ALL:
            self.assertEqual(list(field.ties), sorted(field.ties))
            self.assertEqual(len(field.places), field.size)
            for pair in field.places + tuple(pair for table in field.ties.values() for pair in table):
                self.assert_fractions(pair)

    def test_ties_are_ascending(self):
        field = Field(ONES * 2, {(2, 3): EVEN, (0, 3): EVEN, (0, 2): EVEN})
        self.assertEqual(list(field.ties), [(0, 2), (0, 3), (2, 3)])

    def test_one_and_six_places(self):
        self.assertEqual([LONE.size, len(LONE), LONE.ties, LONE.places], [1, 0, {}, (((1, 2), (3, 1)),)])
        self.assertEqual([FULL.size, len(FULL), len(APART), STILL.places], [6, 15, 0, (((2, 1), (0, 1)),)])

    def test_long_weights(self):
        self.assertEqual(LONGS.places[0], ((LONG, LONG_BOTTOM), (SIXTY, 1)))
        self.assertEqual(LONGS.ties[(0, 1)], (((1, 1), (1, LONG)), ((LONG, 2), (7, 1))))
        self.assertEqual(Field((((SIXTY_ONE, 1), 0),), {}).places, (((SIXTY_ONE, 1), (0, 1)),))

    def test_wrong_places(self):
        self.each_raises(InvalidField, NO_PLACES_DATA, lambda value: Field(value, {}))
        self.each_raises(InvalidField, NO_PLACES_DATA, lambda value: Field(value, {(0, 1): EVEN}))

    def test_wrong_ties(self):
        self.each_raises(InvalidField, NO_TIES, lambda value: Field(ONES, value))
        self.raised(InvalidField, Field, ((1, 1),), {(0, 1): EVEN})

    def test_judged_data(self):
        self.each_judged(True, [(field.places, field.ties) for field in ALL] + [
            (((1, 0),), {}), (ONES, {(0, 1): ((1, 1), (1, 0))}), (ONES * 3, {})], is_field_data)
        self.each_judged(False, NO_FIELDS[:-8] + (
            Field, PAIRS, RING, [ONES, {}], (ONES,), (ONES, {}, {}), (ONES, ()), ({}, ONES), ((), {}), {0: ONES}),
            is_field_data)
        self.each_judged(False, [(ONES, ties) for ties in NO_TIES], is_field_data)
        self.each_judged(False, [(places, {}) for places in NO_PLACES_DATA], is_field_data)


class FreeTest(Checks):
    def test_free_fields(self):
        self.assertEqual(Field.free(3, ((0, 2), (1, 2)), (5, 2)),
                         Field(((1, (5, 2)),) * 3, {(0, 2): ((1, 1), (1, 0)), (1, 2): ((1, 1), (1, 0))}))
        self.assertEqual([Field.free(1, (), 0), Field.free(6, (), SIXTY).places],
                         [Field(((1, 0),), {}), (((1, 1), (SIXTY, 1)),) * 6])
        self.assertEqual(tuple(FREE_FULL.ties), all_ties(6))
        self.assertEqual(set(FREE_FULL.ties.values()), {(((1, 1), (1, 1)), ((1, 1), (0, 1)))})

    def test_no_neighbours_have_both_the_state_1(self):
        for size in range(1, 7):
            for ties in ((), all_ties(size), ring_ties(size) if size > 2 else ()):
                rows = rows_of(Field.free(size, ties, 3))
                self.assertEqual(rows, {
                    row: (3 ** sum(row), 1) for row in product((0, 1), repeat=size)
                    if not any(row[i] and row[j] for i, j in ties)})

    def test_wrong_numbers(self):
        self.each_refused_number(ODD_VALUES + (0, 7, -1, (3, 1)), lambda value: Field.free(value, (), 1))
        self.each_raises(InvalidField, NO_TIE_TUPLES, lambda value: Field.free(3, value, 1))
        self.each_refused_number([value for value in ODD_VALUES if repr(value) != "(0, 2)"] + [-1, (-1, 2), "1", RING],
                                 lambda value: Field.free(3, ((0, 1),), value))

    def test_the_first_error_is_raised(self):
        self.refused_in_order(Field.free, (3, ((0, 1),), 1), (
            (7, InvalidNumber), (((0, 3),), InvalidField), (-1, InvalidNumber)))


class TiesTest(Checks):
    def test_neighbours(self):
        for field in ALL:
            for place in range(field.size):
                self.assertEqual(field.neighbours(place), tuple(web_of(field).beside(place)))

    def test_weights_at_ties(self):
        for field in ALL:
            for (low, high), table in field.ties.items():
                self.assertEqual(field.weights_at(low, high), table)
                self.assertEqual(field.weights_at(high, low), tuple(zip(*table)))
                self.assert_fraction_rows(field.weights_at(high, low))

    def test_wrong_places(self):
        for field in (RING, FREE_FULL):
            wrong = NO_PLACES + (field.size,)
            self.each_refused_number(wrong, field.neighbours)
            self.each_refused_number(wrong, lambda value, field=field: field.weights_at(value, 0))
            self.each_refused_number(wrong, lambda value, field=field: field.weights_at(0, value))
        self.refused_in_order(RING.weights_at, (0, 1), ((4, InvalidNumber), (-1, InvalidNumber)))

    def test_no_ties(self):
        for one, other in ((0, 2), (2, 0), (1, 3), (0, 0), (3, 3)):
            self.raised(InvalidOperation, RING.weights_at, one, other)
        self.raised(InvalidOperation, LONE.weights_at, 0, 0)


class ComparedTest(Checks):
    def test_equal(self):
        self.assertTrue(Field(((1, (2, 1)),), {}) == Field((((1, 1), 2),), {}))
        self.assertFalse(Field(((1, (2, 1)),), {}) != Field((((1, 1), 2),), {}))
        ties = {(0, 1): EVEN, (1, 2): EVEN}
        self.assertTrue(Field(ONES + ((1, 1),), ties) == Field(ONES + ((1, 1),), dict(reversed(ties.items()))))
        for at, field in enumerate(ALL):
            self.assertEqual([field == other for other in ALL], [place == at for place in range(len(ALL))])
            self.assertEqual([field != other for other in ALL], [place != at for place in range(len(ALL))])

    def test_not_equal(self):
        places = ONES + ((1, 1),)
        self.assertFalse(Field(places, {(0, 1): EVEN}) == Field(places, {(0, 2): EVEN}))
        self.assertFalse(Field(places, {}) == Field(((2, 2),) + places[1:], {}))
        self.assertFalse(Field(places, {(0, 1): EVEN}) == Field(places, {(0, 1): ((2, 2), (2, 2))}))
        self.each_judged(False, NO_FIELDS, lambda value: RING == value)
        self.each_judged(True, NO_FIELDS, lambda value: RING != value)

    def test_lengths_and_texts(self):
        self.assertEqual([len(field) for field in ALL], [len(field.ties) for field in ALL])
        self.assertEqual([str(LONE), str(FULL), str(LINE), str(APART)],
                         ["field of 1 places, 0 ties", "field of 6 places, 15 ties", "field of 3 places, 2 ties",
                          "field of 6 places, 0 ties"])

    def test_they_are_not_iterated_over(self):
        with self.assertRaises(TypeError):
            iter(RING)

    def test_nothing_is_shared(self):
        ties = {(0, 1): EVEN}
        field = Field(ONES, ties)
        ties[(0, 1)] = ((5, 5), (5, 5))
        field.ties.clear()
        field.ties[(0, 1)] = None
        rows_of(field).clear()
        self.assertEqual(field, Field(ONES, {(0, 1): EVEN}))
        self.assertEqual(len(rows_of(field)), 4)

    def test_arguments_stay(self):
        ties, pins = {(1, 2): EVEN, (0, 1): EVEN}, {2: 1, 0: 1}
        field = Field(ONES + ((1, 1),), ties)
        is_field_data((ONES, ties))
        is_pins(field, pins)
        share(field, 1, pins)
        self.assertEqual([list(ties), list(pins.items())], [[(1, 2), (0, 1)], [(2, 1), (0, 1)]])


class RowsTest(Checks):
    def test_weights_of_rows(self):
        for field in ALL:
            web = web_of(field)
            for row in product((0, 1), repeat=field.size):
                self.assertEqual(row_weight(field, row), as_pair(web.weight(row)))

    def test_rows(self):
        for field in ALL:
            found = rows_of(field)
            self.assertEqual(list(found.items()), [(row, as_pair(weight)) for row, weight in web_of(field).rows.items()])
            self.assertEqual(list(found), sorted(found))
            self.assert_fractions(found.values())

    def test_one_place(self):
        self.assertEqual([rows_of(LONE), rows_of(STILL)], [{(0,): (1, 2), (1,): (3, 1)}, {(0,): (2, 1)}])
        self.assertEqual([row_weight(STILL, (1,)), row_weight(STILL, (0,))], [(0, 1), (2, 1)])

    def test_wrong_rows(self):
        self.each_raises(InvalidRow, NO_ROWS, lambda value: row_weight(MIXED, value))
        self.raised(InvalidRow, row_weight, LONE, ())
        self.fields_are_refused_first(NO_FIELDS, ((row_weight, ((0,),)), (row_weight, (None,)), (rows_of, ())))

    def test_lots(self):
        for field in ALL:
            if field.size <= 4:
                lots = field_lots(field)
                self.assertEqual(lots.weights, {
                    tuple(2 * at + state for at, state in enumerate(row)): weight
                    for row, weight in rows_of(field).items()})
            else:
                self.too_many(8, field_lots, field)
        self.assertEqual([field_lots(LONE).things, field_lots(STILL).things], [(0, 1), (0,)])
        self.fields_are_refused_first(NO_FIELDS, ((field_lots, ()),))


class PinsTest(Checks):
    def test_judged_pins(self):
        for field in SMALL + (FIVE,):
            pins = web_of(field).all_pins()
            for states in product((None, 0, 1), repeat=field.size):
                value = {at: state for at, state in enumerate(states) if state is not None}
                self.assertIs(is_pins(field, value), value in pins)
                self.assertIs(is_pins(field, dict(reversed(value.items()))), value in pins)

    def test_no_pins(self):
        self.each_judged(False, NO_PINS, lambda value: is_pins(RING, value))
        self.each_judged(True, ({}, {0: 0}, {3: 0, 0: 1}, {0: 1, 1: 0, 2: 1, 3: 0}), lambda value: is_pins(RING, value))
        self.each_judged(False, ({0: 1}, {0: 1, 1: 0}, {1: 0}), lambda value: is_pins(STILL, value))
        self.fields_are_refused_first(NO_FIELDS, ((is_pins, ({},)), (is_pins, (None,))))


class ShareTest(Checks):
    def test_shares(self):
        for field in ALL:
            web = web_of(field)
            for pins in some_pins(field):
                for place in range(field.size):
                    self.assertEqual(share(field, place, pins), as_pair(web.share(place, pins)))

    def test_all_pins(self):
        for field in SMALL:
            web = web_of(field)
            for pins in web.all_pins():
                found = [share(field, place, pins) for place in range(field.size)]
                self.assert_fractions(found)
                self.assertEqual(found, [as_pair(web.share(place, pins)) for place in range(field.size)])

    def test_pinned_places(self):
        self.assertEqual([share(RING, 0, {0: 1}), share(RING, 0, {0: 0}), share(RING, 1, {0: 1, 1: 0, 2: 1, 3: 0}),
                          share(STILL, 0, {}), share(STILL, 0, {0: 0})],
                         [(1, 1), (0, 1), (0, 1), (0, 1), (0, 1)])

    def test_wrong_arguments(self):
        self.each_refused_number(NO_PLACES + (4,), lambda value: share(RING, value, {}))
        self.each_raises(InvalidPin, NO_PINS, lambda value: share(RING, 0, value))
        self.refused_in_order(share, (RING, 0, {}), ((None, InvalidField), (4, InvalidNumber), ({9: 9}, InvalidPin)))
        self.fields_are_refused_first(NO_FIELDS, ((share, (0, {})),))


class TreesTest(Checks):
    def test_trees(self):
        for field in ALL:
            web = web_of(field)
            self.assertIs(is_tree(field), web.hangs_together() and len(web.ties) == web.size - 1)
        self.assertEqual([[is_tree(field) for field in fields] for fields in (TREES, RINGS, LOOSE)],
                         [[True] * len(TREES), [False] * len(RINGS), [False] * len(LOOSE)])

    def test_as_many_ties_as_a_tree_but_a_ring(self):
        self.assertFalse(is_tree(Field.free(4, ((0, 1), (0, 2), (1, 2)), 1)))
        self.assertTrue(is_tree(Field.free(4, ((0, 3), (1, 3), (2, 3)), 1)))
        self.assertFalse(is_tree(PARTS))

    def behind(self, web, root, place):
        """The places that are led to the root through a place, this one among them."""
        others = {root}
        while True:
            more = {j for i in others for j in web.beside(i) if j != place} - others
            if not more:
                break
            others |= more
        return [at for at in range(web.size) if at not in others or place == root]

    def test_sums_by_all_states(self):
        for field in TREES:
            web = web_of(field)
            for root in range(field.size):
                found = sums_towards(field, root)
                self.assert_fraction_rows(found)
                for place in range(field.size):
                    places = self.behind(web, root, place)
                    sums = [Fraction(0), Fraction(0)]
                    for states in product((0, 1), repeat=len(places)):
                        row = dict(zip(places, states))
                        sums[row[place]] += prod(
                            [web.places[at][state] for at, state in row.items()]
                            + [table[row[i]][row[j]] for (i, j), table in web.ties.items() if i in row and j in row])
                    self.assertEqual(found[place], as_pairs(sums))

    def test_sums_tell_the_share(self):
        for field in TREES:
            for root in range(field.size):
                none, one = (exact(number) for number in sums_towards(field, root)[root])
                self.assertEqual(exact(share(field, root, {})), one / (none + one))

    def test_one_place(self):
        self.assertEqual([sums_towards(LONE, 0), sums_towards(STILL, 0)], [(((1, 2), (3, 1)),), (((2, 1), (0, 1)),)])
        self.assertEqual([way_influence(LONE, 0, 0), way_influence(STILL, 0, 0)], [(1, 1), (1, 1)])

    def test_influences_by_ways(self):
        for field in TREES:
            web = web_of(field)
            for one in range(field.size):
                for other in range(field.size):
                    wanted = web.influence(one, other, {}) if one != other else Fraction(1)
                    self.assertEqual(way_influence(field, one, other), as_pair(wanted))

    def test_places_that_cannot_have_the_state_1(self):
        self.assertEqual([way_influence(STIFF, one, other) for one in range(3) for other in range(3)],
                         [(int(one == other), 1) for one in range(3) for other in range(3)])

    def test_wrong_places(self):
        for call in (lambda value: sums_towards(LINE, value), lambda value: way_influence(LINE, value, 0),
                     lambda value: way_influence(LINE, 0, value)):
            self.each_refused_number(NO_PLACES + (3,), call)
        self.refused_in_order(sums_towards, (LINE, 0), ((None, InvalidField), (3, InvalidNumber)))
        self.refused_in_order(way_influence, (LINE, 0, 2), ((None, InvalidField), (3, InvalidNumber), (-1, InvalidNumber)))
        self.fields_are_refused_first(NO_FIELDS, (
            (is_tree, ()), (sums_towards, (0,)), (sums_towards, (9,)), (way_influence, (0, 0)), (way_influence, (9, 9))))

    def test_no_trees(self):
        for field in RINGS + LOOSE:
            self.raised(InvalidOperation, sums_towards, field, 0)
            self.raised(InvalidOperation, way_influence, field, 0, 1)
            self.raised(InvalidOperation, way_influence, field, 0, 0)
            self.refused_number(field.size, sums_towards, field, field.size)
            self.refused_number(field.size, way_influence, field, 0, field.size)


class PromisesTest(Checks):
    def test_the_row_of_zeros(self):
        for field in ALL:
            self.assertIn((0,) * field.size, rows_of(field))
            self.assertGreater(row_weight(field, (0,) * field.size)[0], 0)

    def test_pins_by_their_own_weights(self):
        for field in SMALL + (FIVE, SLACK):
            for states in product((None, 0, 1), repeat=field.size):
                pins = {at: state for at, state in enumerate(states) if state is not None}
                wanted = all(field.places[at][state][0] > 0 for at, state in pins.items()) and all(
                    table[pins[i]][pins[j]][0] > 0 for (i, j), table in field.ties.items() if i in pins and j in pins)
                self.assertIs(is_pins(field, pins), wanted)

    def all_shares(self, field):
        return [share(field, place, pins) for pins in some_pins(field) for place in range(field.size)]

    def times(self, pair, number):
        return as_pairs(exact(weight) * number for weight in pair)

    def test_shares_stay_if_all_weights_are_multiplied(self):
        for field in SMALL + (FIVE, BRANCH):
            number = Fraction(LONG, LONG_BOTTOM) if field.size < 3 else Fraction(7, 3)
            places = (self.times(field.places[0], number),) + field.places[1:]
            self.assertEqual(self.all_shares(Field(places, field.ties)), self.all_shares(field))
            for tie in list(field.ties)[:2]:
                table = tuple(self.times(pair, number) for pair in field.ties[tie])
                self.assertEqual(self.all_shares(Field(field.places, {**field.ties, tie: table})), self.all_shares(field))

    def test_shares_stay_if_weights_go_from_a_tie_to_a_place(self):
        number = Fraction(5, 3)
        for field in (MIXED, LINE, FOUR, STIFF, FIVE):
            for (i, j), table in list(field.ties.items())[:2]:
                for state in (0, 1):
                    places = list(field.places)
                    places[i] = tuple(as_pair(exact(weight) / number) if at == state else weight
                                      for at, weight in enumerate(places[i]))
                    led = tuple(self.times(pair, number) if at == state else pair for at, pair in enumerate(table))
                    other = Field(tuple(places), {**field.ties, (i, j): led})
                    self.assertEqual(self.all_shares(other), self.all_shares(field))

    def test_sums_by_the_sums_behind(self):
        for field in (LINE, BRANCH, STRAIGHT, STIFF):
            web = web_of(field)
            sums = [[exact(number) for number in pair] for pair in sums_towards(field, 0)]
            for place in range(field.size):
                behind = [j for j in web.beside(place) if set(self.trail(web, j)) > {place}]
                for state in (0, 1):
                    wanted = web.places[place][state] * prod(
                        sum(web.weights_at(place, j)[state][b] * sums[j][b] for b in (0, 1)) for j in behind)
                    self.assertEqual(sums[place][state], wanted)

    def trail(self, web, place):
        """The places of the way from a place to the place 0."""
        for many in range(1, web.size + 1):
            for way in permutations(range(web.size), many):
                if way[0] == place and way[-1] == 0 and all(j in web.beside(i) for i, j in zip(way, way[1:])):
                    return way
        return ()

    def test_ways_are_products_of_influences(self):
        for field in (LINE, KIND, COUPLE, BRANCH, STRAIGHT, STIFF):
            web = web_of(field)
            for one in range(field.size):
                way = self.trail(web, one)
                wanted = prod((exact(influence(field, i, j, {})) for i, j in zip(way, way[1:])), start=Fraction(1))
                self.assertEqual(exact(way_influence(field, one, 0)), wanted)

    def test_places_without_a_tie_do_not_go_their_own_ways(self):
        self.assertNotIn(2, RING.neighbours(0))
        self.assertNotEqual(share(RING, 2, {0: 1}), share(RING, 2, {0: 0}))

    def test_a_neighbour_in_the_state_1_can_make_the_share_lesser(self):
        self.assertLess(exact(share(RING, 1, {0: 1})), exact(share(RING, 1, {0: 0})))
        self.assertGreater(exact(share(KIND, 2, {1: 1})), exact(share(KIND, 2, {1: 0})))

    def test_sixty_digits(self):
        web = web_of(SIXTIES)
        self.assertEqual([share(SIXTIES, place, {1: 1}) for place in range(3)],
                         [as_pair(web.share(place, {1: 1})) for place in range(3)])
        self.assertEqual(exact(row_weight(SIXTIES, (0, 0, 0))), SIXTY * (SIXTY - 10 ** 30) * 7 * SIXTY * 2)

    def test_a_weight_of_0(self):
        self.assertEqual([share(FREE_NONE, place, {}) for place in range(5)], [(0, 1)] * 5)
        self.assertEqual(rows_of(SLACK), {(0, 0, 0): (6, 1)})
