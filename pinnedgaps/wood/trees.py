"""Trees of walks: trees of nodes that tell the share of a state at a place of a field, whatever its rings."""

from pinnedgaps.base.numbers import fraction, is_integer, is_within
from pinnedgaps.errors import InvalidNumber, InvalidOperation, InvalidOrder
from pinnedgaps.twostate.fields import check_field, check_pins, check_place, is_place, is_state


def is_order(field, value):
    """Whether the value has for each place a tuple of its neighbours, each once."""
    check_field(field)
    if not isinstance(value, tuple) or len(value) != field.size:
        return False
    return all([_is_sequence(field.neighbours(place), beside) for place, beside in enumerate(value)])


def plain_order(field):
    """The order that has all neighbours ascending."""
    check_field(field)
    return tuple([field.neighbours(place) for place in range(field.size)])


def is_tree_of_nodes(field, value):
    """Whether the value is a tuple of triples (place, parent, mark) that make a tree along ties."""
    check_field(field)
    if not isinstance(value, tuple) or len(value) == 0:
        return False
    if not all([_is_node(field, node) for node in value]):
        return False
    if value[0][1:] != (-1, None):
        return False
    return all([_has_parent(field, value, at) for at in range(1, len(value))])


def tree_ratio(field, nodes):
    """The ratio of the root of a tree of nodes, a fraction."""
    _check_nodes(field, nodes)
    return _root_ratio(field, nodes)


def walk_tree(field, place, order, pins):
    """The tree of walks from a place."""
    check_walk(field, place, order)
    check_pins(field, pins)
    if place in pins:
        raise InvalidOperation("the place must not be pinned")
    return ((place, -1, None),) + tuple(_nodes_below(order, pins, (place,), 0))


def walk_to(field, nodes, number):
    """The tuple of the places from the root to a node."""
    _check_nodes(field, nodes)
    if not is_within(number, 0, len(nodes) - 1):
        raise InvalidNumber(number)
    walk = ()
    at = number
    while at >= 0:
        walk = (nodes[at][0],) + walk
        at = nodes[at][1]
    return walk


def share_by_walks(field, place, order, pins):
    """The share of the state 1 at the place that the tree of walks tells, a fraction."""
    return share_of_ratio(_root_ratio(field, walk_tree(field, place, order, pins)))


def check_walk(field, place, order):
    """Refuses what is no field, no place of it, or no order of it."""
    check_field(field)
    check_place(field, place)
    if not is_order(field, order):
        raise InvalidOrder("there must be an order of the field")


def own_ratio(field, place):
    """The ratio of the weights of both states of a place."""
    weights = field.whole_place(place)
    return fraction(weights[1], weights[0])


def pinned_ratio(mark):
    """The ratio that a node pinned to a state stands for: 0, or an endless one, which has the bottom 0."""
    return (mark, 1 - mark)


def factor_of(table, ratio):
    """The factor of a child with this ratio, which can be endless; `table` has the weights at the tie to it."""
    top, bottom = ratio
    return fraction(table[1][0] * bottom + table[1][1] * top, table[0][0] * bottom + table[0][1] * top)


def times_ratio(one, other):
    """The product of two ratios that are not endless."""
    return fraction(one[0] * other[0], one[1] * other[1])


def share_of_ratio(ratio):
    """The share of the state 1 at a node with this ratio, which can be endless."""
    top, bottom = ratio
    return fraction(top, top + bottom)


def _check_nodes(field, nodes):
    """Refuses what is no field, and what is no tree of nodes of it."""
    if not is_tree_of_nodes(field, nodes):
        raise InvalidOperation("there must be a tree of nodes of the field")


def _is_sequence(places, value):
    """Whether the value is a tuple of these ascending places, each once, in any sequence."""
    if not isinstance(value, tuple) or not all([is_integer(place) for place in value]):
        return False
    return tuple(sorted(value)) == places


def _is_node(field, value):
    """Whether the value is a triple of a place, an integer, and a mark."""
    if not isinstance(value, tuple) or len(value) != 3:
        return False
    place, parent, mark = value
    return is_place(field, place) and is_integer(parent) and (mark is None or is_state(mark))


def _has_parent(field, nodes, at):
    """Whether the parent of a node is an earlier free one, at a neighbour of its place."""
    place, parent, _ = nodes[at]
    if not 0 <= parent < at or nodes[parent][2] is not None:
        return False
    return nodes[parent][0] in field.neighbours(place)


def _root_ratio(field, nodes):
    """The ratio of the root: children stand behind their parents, so each node is ready when its turn comes."""
    ratios = [own_ratio(field, place) if mark is None else pinned_ratio(mark) for place, _, mark in nodes]
    for at in range(len(nodes) - 1, 0, -1):
        place, parent, _ = nodes[at]
        factor = factor_of(field.whole_tie(nodes[parent][0], place), ratios[at])
        ratios[parent] = times_ratio(ratios[parent], factor)
    return ratios[0]


def _nodes_below(order, pins, walk, number):
    """The list of all nodes below the last one of a walk, which has this index, depth first."""
    came_from = walk[-2] if len(walk) > 1 else None
    nodes = []
    for place in order[walk[-1]]:
        if place != came_from:
            mark = _mark(order, pins, walk, place)
            nodes.append((place, number, mark))
            if mark is None:
                nodes.extend(_nodes_below(order, pins, walk + (place,), number + len(nodes)))
    return nodes


def _mark(order, pins, walk, place):
    """The mark of a child at this place of the last node of a walk."""
    if place in pins:
        return pins[place]
    if place not in walk:
        return None
    # The walk comes back: it tells by the order of the place whether it returns behind the way that it took from there.
    taken = walk[walk.index(place) + 1]
    return 1 if order[place].index(walk[-1]) > order[place].index(taken) else 0
