"""The promises [13.1] to [13.7], and the functions of pinnedgaps.wood.trees."""

from itertools import islice

from pinnedgaps.errors import InvalidField, InvalidNumber, InvalidOperation, InvalidOrder, InvalidPin
from pinnedgaps.twostate.fields import Field, share
from pinnedgaps.wood.trees import (
    is_order, is_tree_of_nodes, plain_order, share_by_walks, tree_ratio, walk_to, walk_tree)
from tests.bags import PAIRS
from tests.checks import Checks
from tests.exact import as_pair, exact
from tests.examples import run_examples
from tests.samples import LONG, LONG_BOTTOM, ODD_VALUES, SIXTY_ONE
from tests.webs import (
    ALL, APART, BRANCH, COUPLE, FIVE, FREE_FULL, FULL, HALF, HARD, KIND, LARGE, LINE, LONE, LONGS, MIXED, NO_FIELDS,
    NO_PINS, NO_PLACES, RING, SIXTIES, SMALL, STIFF, STILL, STRAIGHT, WHEEL, some_orders, some_pins, web_of)

EXAMPLES = """
>>> walk_tree(RING, 0, plain_order(RING), {})
((0, -1, None), (1, 0, None), (2, 1, None), (3, 2, None), (0, 3, 1), (3, 0, None), (2, 5, None), (1, 6, None), (0, 7, 0))
>>> [share_by_walks(RING, 0, plain_order(RING), {}), share_by_walks(RING, 0, plain_order(RING), {2: 1}), [share_by_walks(MIXED, place, plain_order(MIXED), {}) for place in (0, 1, 2)]]
[(2, 7), (1, 2), [(6, 7), (17, 21), (1, 7)]]
>>> [tree_ratio(RING, ((0, -1, None), (1, 0, None), (3, 0, 1))), tree_ratio(MIXED, ((0, -1, None), (1, 0, 1))), is_tree_of_nodes(RING, ((0, -1, None), (2, 0, 1))), walk_to(RING, walk_tree(RING, 0, plain_order(RING), {}), 8)]
[(0, 1), (6, 1), False, (0, 3, 2, 1, 0)]
>>> walk_tree(RING, 0, ((1, 3), (0, 2), (1, 3), (0,)), {})
raises InvalidOrder
"""

PLAIN = ((1, 3), (0, 2), (1, 3), (0, 2))
ROOT = (0, -1, None)
NO_ORDERS = ODD_VALUES + (
    PLAIN[:3], PLAIN + ((0, 2),), ((1, 3), (0, 2), (1, 3), (0,)), ((1, 3), (0, 2), (1, 3), (0, 2, 2)),
    ((1, 1), (0, 2), (1, 3), (0, 2)), ((1, 2), (0, 2), (1, 3), (0, 2)), ((1, 3), (0, 2), (1, 3), (0, 4)),
    ((True, 3), (0, 2), (1, 3), (0, 2)), ((1, 3), (False, 2), (1, 3), (0, 2)), ([1, 3], (0, 2), (1, 3), (0, 2)),
    list(PLAIN), {0: (1, 3)}, ((1, 3), (0, 2), (1, 3), None), ((1, 3), (0, 2), (1, 3), (0, None)), "1302", RING,
    ((1, "3"), (0, 2), (1, 3), (0, 2)), ((1, (3, 1)), (0, 2), (1, 3), (0, 2)), ((1, 3), (0, 2), (1, 3), (0, [2])),
    ((1, 3), (0, 2), (1, 3), (0, {})), ((1, SIXTY_ONE), (0, 2), (1, 3), (0, 2)), (1, 3, 0, 2), ((), (), (), ()),
    ((1, 3), (0, 2), (1, 3), (0, RING)), ((1, 3, 0), (0, 2), (1, 3), (0, 2)))
NO_NODES = ODD_VALUES + (
    ROOT, [ROOT], ([0, -1, None],), ((0, -1),), ((0, -1, None, None),), ((0, 0, None),), ((0, None, None),),
    ((0, -1, 0),), ((0, -1, 1),), ((4, -1, None),), ((-1, -1, None),), ((True, -1, None),), ((0, True, None),),
    (ROOT, ROOT), (ROOT, (1, -1, None)), (ROOT, (1, -1, None), (2, 1, None)), (ROOT, (1, -2, None)), (ROOT, (1, 1, None)), (ROOT, (1, 2, None), (1, 0, None)), (ROOT, (2, 0, None)),
    (ROOT, (0, 0, None)), (ROOT, (1, 0, 2)), (ROOT, (1, 0, -1)), (ROOT, (1, 0, True)), (ROOT, (1, 0, False)),
    (ROOT, (1, False, None)), (ROOT, (True, 0, None)), (ROOT, (1, 0, "0")), (ROOT, (1, 0, ())), (ROOT, (1, 0, (1, 1))),
    (ROOT, (1, 0, 0), (0, 1, None)), (ROOT, (1, 0, 1), (2, 1, 1)), (ROOT, (1, 0, None), (3, 1, None)), (ROOT, None),
    (ROOT, (1, 0)), (ROOT, [1, 0, None]), (ROOT, (1, None, None)), (ROOT, (1, 0, None), (2, 3, None)), {0: ROOT}, "0",
    (ROOT, (1, (0, 1), None)), (ROOT, ([1], 0, None)), (ROOT, (1, [0], None)), (ROOT, (1, 0, [])), (ROOT, (1, 0, {})),
    (RING,), (ROOT, RING), (ROOT, (RING, 0, None)), (ROOT, (1, 0, RING)), (ROOT, (1, SIXTY_ONE, None)))
# Trees of nodes of RING that are not of walks: walks that turn back, children twice, free nodes that come twice.
OTHER_NODES = (
    (ROOT,), ((3, -1, None),), (ROOT, (1, 0, None), (3, 0, 1)), (ROOT, (1, 0, None), (0, 1, None), (1, 2, None)),
    (ROOT, (1, 0, None), (1, 0, None), (1, 0, 0), (3, 0, None), (2, 1, None), (2, 4, 1), (2, 2, None)),
    ((2, -1, None), (3, 0, 1), (3, 0, 1), (1, 0, None), (0, 3, 0), (2, 3, None)),
    (ROOT, (1, 0, 0), (1, 0, 1), (3, 0, 0), (3, 0, None)))


def ratio_of(web, nodes, at):
    """The ratio of a node by the words of [13.3]."""
    place = nodes[at][0]
    ratio = web.places[place][1] / web.places[place][0]
    for child, (other, parent, mark) in enumerate(nodes):
        if parent == at:
            weights = web.weights_at(place, other)
            if mark is None:
                below = ratio_of(web, nodes, child)
                ratio *= (weights[1][0] + weights[1][1] * below) / (weights[0][0] + weights[0][1] * below)
            else:
                ratio *= weights[1][mark] / weights[0][mark]
    return ratio


def walks_of(web, order, pins, walk):
    """All walks from the root to nodes below the end of a walk, with their marks, by the words of [13.4]."""
    x = walk[-1]
    for y in order[x]:
        if len(walk) > 1 and y == walk[-2]:
            continue
        if y in pins:
            mark = pins[y]
        elif y in walk:
            mark = int(order[y].index(x) > order[y].index(walk[walk.index(y) + 1]))
        else:
            mark = None
        yield walk + (y,), mark
        if mark is None:
            yield from walks_of(web, order, pins, walk + (y,))


class ExamplesTest(Checks):
    def test_examples(self):
        run_examples(self, ["pinnedgaps.wood.trees"], EXAMPLES)


class OrdersTest(Checks):
    def test_orders(self):
        for field in ALL:
            self.each_judged(True, some_orders(field), lambda value, field=field: is_order(field, value))
        for field in (RING, MIXED, LINE, HARD, LONE):
            orders = list(web_of(field).orders())
            self.assertEqual(len(set(orders)), len(orders))
            self.each_judged(True, orders, lambda value, field=field: is_order(field, value))

    def test_no_orders(self):
        self.each_judged(False, NO_ORDERS, lambda value: is_order(RING, value))
        self.each_judged(False, (((1,),), (), ((0,),), ((), ())), lambda value: is_order(LONE, value))
        self.fields_are_refused_first(NO_FIELDS, ((is_order, (PLAIN,)), (is_order, (None,)), (plain_order, ())))

    def test_plain_orders(self):
        for field in ALL:
            found = plain_order(field)
            self.assertEqual(found, tuple(tuple(web_of(field).beside(place)) for place in range(field.size)))
            self.assertTrue(is_order(field, found))
        self.assertEqual([plain_order(LONE), plain_order(APART), plain_order(COUPLE)], [((),), ((),) * 6, ((1,), (0,))])


class NodesTest(Checks):
    def test_trees_of_nodes(self):
        self.each_judged(True, OTHER_NODES, lambda value: is_tree_of_nodes(RING, value))
        self.each_judged(False, NO_NODES, lambda value: is_tree_of_nodes(RING, value))
        self.assertFalse(is_tree_of_nodes(LONE, (ROOT, (0, 0, None))))
        self.fields_are_refused_first(NO_FIELDS, ((is_tree_of_nodes, ((ROOT,),)), (is_tree_of_nodes, (None,))))

    def test_trees_of_walks_are_trees_of_nodes(self):
        for field in ALL:
            for order in some_orders(field):
                self.assertIs(is_tree_of_nodes(field, walk_tree(field, field.size - 1, order, {})), True)

    def test_ratios(self):
        for nodes in OTHER_NODES:
            for field in (RING, HALF):
                found = tree_ratio(field, nodes)
                self.assert_fractions((found,))
                self.assertEqual(exact(found), ratio_of(web_of(field), nodes, 0))

    def test_ratios_of_other_fields(self):
        nodes = (ROOT, (1, 0, None), (2, 1, 1), (0, 1, None), (2, 0, None), (1, 4, 0), (1, 4, 1), (0, 4, None), (1, 7, None))
        for field in (MIXED, HARD, SIXTIES):
            self.assertTrue(is_tree_of_nodes(field, nodes))
            self.assertEqual(exact(tree_ratio(field, nodes)), ratio_of(web_of(field), nodes, 0))
        self.assertEqual([tree_ratio(LONE, (ROOT,)), tree_ratio(STILL, (ROOT,))], [(6, 1), (0, 1)])

    def test_both_sides_of_a_tie(self):
        self.assertEqual([tree_ratio(MIXED, ((0, -1, None), (1, 0, 0))), tree_ratio(MIXED, ((1, -1, None), (0, 0, 0))),
                          tree_ratio(COUPLE, ((1, -1, None), (0, 0, 1)))], [(1, 1), (1, 2), (5, 24)])

    def test_deep_trees(self):
        nodes = (ROOT,) + tuple((at % 2, at - 1, None) for at in range(1, 1500))
        web = web_of(COUPLE)
        ratio = web.places[1][1] / web.places[1][0]
        self.assertTrue(is_tree_of_nodes(COUPLE, nodes[:400]))
        for place in [at % 2 for at in range(398, -1, -1)]:
            weights = web.weights_at(place, 1 - place)
            own = web.places[place][1] / web.places[place][0]
            ratio = own * (weights[1][0] + weights[1][1] * ratio) / (weights[0][0] + weights[0][1] * ratio)
        self.assertEqual(exact(tree_ratio(COUPLE, nodes[:400])), ratio)
        self.assertEqual(walk_to(COUPLE, nodes, 1499), (0, 1) * 750)

    def test_long_weights(self):
        field = Field((((LONG, LONG_BOTTOM), 1), (1, (LONG_BOTTOM, LONG))), {(0, 1): ((1, 1), (1, (1, LONG)))})
        nodes = (ROOT, (1, 0, None), (0, 1, 1))
        self.assertEqual(exact(tree_ratio(field, nodes)), ratio_of(web_of(field), nodes, 0))

    def test_wrong_nodes(self):
        for call in (lambda value: tree_ratio(RING, value), lambda value: walk_to(RING, value, 0)):
            self.each_raises(InvalidOperation, NO_NODES, call)
        self.refused_in_order(tree_ratio, (RING, (ROOT,)), ((None, InvalidField), ((), InvalidOperation)))
        self.fields_are_refused_first(NO_FIELDS, ((tree_ratio, ((ROOT,),)), (walk_to, ((ROOT,), 0))))


class WalksTest(Checks):
    def test_walk_trees(self):
        for field in ALL:
            web = web_of(field)
            for order in some_orders(field)[:2 if field in LARGE else 4]:
                for pins in some_pins(field)[:5]:
                    for place in range(field.size):
                        if place not in pins:
                            self.assert_walks(field, web, place, order, pins)

    def assert_walks(self, field, web, place, order, pins):
        nodes = walk_tree(field, place, order, pins)
        self.assertEqual(nodes[0], (place, -1, None))
        wanted = [((place,), None)] + list(walks_of(web, order, pins, (place,)))
        walks = []
        for own, parent, mark in nodes:
            walks.append((walks[parent][0] + (own,) if parent >= 0 else (own,), mark))
        self.assertEqual(walks, wanted)
        self.assertEqual([walk_to(field, nodes, at) for at in (0, len(nodes) // 2, len(nodes) - 1)],
                         [walks[at][0] for at in (0, len(nodes) // 2, len(nodes) - 1)])

    def test_one_place(self):
        self.assertEqual([walk_tree(LONE, 0, ((),), {}), walk_tree(APART, 4, ((),) * 6, {}), walk_to(LONE, (ROOT,), 0)],
                         [(ROOT,), ((4, -1, None),), (0,)])

    def test_another_order(self):
        self.assertEqual(walk_tree(RING, 0, ((3, 1), (2, 0), (1, 3), (0, 2)), {}), (
            (0, -1, None), (3, 0, None), (2, 1, None), (1, 2, None), (0, 3, 1),
            (1, 0, None), (2, 5, None), (3, 6, None), (0, 7, 0)))

    def test_pinned_nodes(self):
        self.assertEqual(walk_tree(RING, 0, PLAIN, {2: 1, 3: 0}), (ROOT, (1, 0, None), (2, 1, 1), (3, 0, 0)))
        self.assertEqual(walk_tree(RING, 0, PLAIN, {1: 0, 2: 0, 3: 0}), (ROOT, (1, 0, 0), (3, 0, 0)))

    def test_wrong_arguments(self):
        for call in (walk_tree, share_by_walks):
            self.each_refused_number(NO_PLACES + (4,), lambda value, call=call: call(RING, value, PLAIN, {}))
            self.each_raises(InvalidOrder, NO_ORDERS, lambda value, call=call: call(RING, 0, value, {}))
            self.each_raises(InvalidPin, NO_PINS, lambda value, call=call: call(RING, 0, PLAIN, value))
            for pins in ({0: 0}, {0: 1}, {0: 0, 1: 0}, {0: 1, 1: 0, 2: 0, 3: 0}):
                self.raised(InvalidOperation, call, RING, 0, PLAIN, pins)
            self.refused_in_order(call, (RING, 0, PLAIN, {}), (
                (None, InvalidField), (4, InvalidNumber), ((), InvalidOrder), ({0: 2}, InvalidPin)))
            self.raised(InvalidOrder, call, RING, 0, (), {0: 1})
            self.fields_are_refused_first(NO_FIELDS, ((call, (0, PLAIN, {})),))

    def test_wrong_numbers_of_nodes(self):
        nodes = walk_tree(RING, 0, PLAIN, {})
        self.each_refused_number(ODD_VALUES + (-1, 9, (0, 1), PAIRS), lambda value: walk_to(RING, nodes, value))
        self.each_refused_number((1, -1), lambda value: walk_to(RING, (ROOT,), value))
        self.refused_in_order(walk_to, (RING, nodes, 8), ((None, InvalidField), ((), InvalidOperation), (9, InvalidNumber)))


class PromisesTest(Checks):
    def test_shares(self):
        for field in ALL:
            for order in some_orders(field)[:2 if field in LARGE else 4]:
                for pins in some_pins(field)[:10:2 if field in LARGE else 1]:
                    for place in range(field.size):
                        if place not in pins:
                            found = share_by_walks(field, place, order, pins)
                            self.assertEqual(found, share(field, place, pins))
                            self.assertEqual(exact(found), web_of(field).share(place, pins))

    def test_all_orders_and_all_pins(self):
        for field in (RING, MIXED, HARD, LINE, STIFF):
            web = web_of(field)
            for order in islice(web.orders(), 0, None, 3):
                for pins in web.all_pins():
                    for place in range(field.size):
                        if place not in pins:
                            self.assertEqual(share_by_walks(field, place, order, pins), as_pair(web.share(place, pins)))

    def test_the_share_of_the_ratio(self):
        for field in SMALL:
            nodes = walk_tree(field, 0, plain_order(field), {})
            ratio = exact(tree_ratio(field, nodes))
            self.assertEqual(ratio, ratio_of(web_of(field), nodes, 0))
            self.assertEqual(exact(share_by_walks(field, 0, plain_order(field), {})), ratio / (1 + ratio))

    def test_without_rings_only_pins_are_pinned(self):
        for field in (LINE, KIND, BRANCH, STRAIGHT, APART):
            for pins in some_pins(field)[:8]:
                for place in range(field.size):
                    if place not in pins:
                        for own, _, mark in walk_tree(field, place, plain_order(field), pins):
                            self.assertEqual(mark, pins.get(own, None))

    def test_no_place_comes_twice_among_free_nodes(self):
        for field in (RING, WHEEL, FIVE):
            nodes = walk_tree(field, 1, plain_order(field), {})
            for at, (_, _, mark) in enumerate(nodes):
                walk = walk_to(field, nodes, at)
                self.assertEqual(len(set(walk)), len(walk) - (mark is not None))

    def test_most_nodes(self):
        for field in (FULL, FREE_FULL):
            for order in some_orders(field):
                self.assertEqual(len(walk_tree(field, 2, order, {})), 1306)
        for field in ALL:
            self.assertLessEqual(len(walk_tree(field, 0, plain_order(field), {})), 1306)

    def test_orders_change_more_than_the_sequence(self):
        marks = [sorted((nodes[at][0], walk_to(RING, nodes, at), nodes[at][2] or 0) for at in range(9))
                 for nodes in (walk_tree(RING, 0, PLAIN, {}), walk_tree(RING, 0, ((3, 1),) + PLAIN[1:], {}))]
        self.assertNotEqual(marks[0], marks[1])

    def test_pinned_nodes_count(self):
        nodes = tuple(node for node in walk_tree(RING, 0, PLAIN, {}) if node[2] is None)
        free = tuple((place, parent if at < 4 else parent - (parent > 3), mark)
                     for at, (place, parent, mark) in enumerate(nodes))
        self.assertTrue(is_tree_of_nodes(RING, free))
        ratio = exact(tree_ratio(RING, free))
        self.assertNotEqual(ratio / (1 + ratio), exact(share(RING, 0, {})))

    def test_long_shares(self):
        for field in (LONGS, SIXTIES):
            for place in range(3):
                self.assertEqual(share_by_walks(field, place, plain_order(field), {}),
                                 as_pair(web_of(field).share(place, {})))
