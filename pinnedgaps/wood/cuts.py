"""Cut trees: trees of walks, cut at a depth, which tell two fractions with the share between them."""

from pinnedgaps.base.numbers import check_within, compared, is_number, less, multiplied, power_of
from pinnedgaps.errors import InvalidNumber, Refused
from pinnedgaps.twostate.fields import check_field
from pinnedgaps.twostate.weights import is_from_0
from pinnedgaps.wood.trees import (
    check_walk, factor_of, own_ratio, pinned_ratio, share_of_ratio, times_ratio, walk_tree)

MAX_CUT = 30
LEAST_NARROW = 2

_FREE_TIE = (((1, 1), (1, 1)), ((1, 1), (0, 1)))


def cut_stretch(field, place, order, depth):
    """The pair of the two fractions that the tree of walks tells if it is cut at a depth."""
    check_walk(field, place, order)
    check_within(depth, 0, MAX_CUT)
    return _stretch(field, walk_tree(field, place, order, {}), depth)


def cut_width(field, place, order, depth):
    """The difference of both ends of the cut stretch."""
    low, high = cut_stretch(field, place, order, depth)
    return less(high, low)


def is_in_cut(field, place, order, depth, value):
    """Whether the value is a number between both ends of the cut stretch, or one of them."""
    low, high = cut_stretch(field, place, order, depth)
    return is_number(value) and compared(low, value) <= 0 and compared(value, high) <= 0


def deepest(field, place, order):
    """The greatest depth of a node of the whole tree of walks."""
    check_walk(field, place, order)
    return max(_depths(walk_tree(field, place, order, {})))


def depth_enough(field, place, order, width):
    """The least depth for which both ends of the cut stretch are at most so far apart."""
    check_walk(field, place, order)
    if not is_from_0(width):
        raise InvalidNumber(width)
    nodes = walk_tree(field, place, order, {})
    depth = 0
    while not _is_narrow(_stretch(field, nodes, depth), width):
        depth += 1
    return depth


def is_free_field(field):
    """Whether no two neighbours can have the state 1, and all places have the weights 1 and one number."""
    check_field(field)
    if not all([weights == ((1, 1), field.places[0][1]) for weights in field.places]):
        return False
    return all([table == _FREE_TIE for table in field.ties.values()])


def narrow_factor(field):
    """By what each further level of a cut tree of a free field narrows the bound of its width."""
    check_field(field)
    _check_free(field)
    return _narrow_factor(field)


def narrow_bound(field, depth):
    """A bound of the widths of all cut stretches of a free field at a depth."""
    check_field(field)
    check_within(depth, LEAST_NARROW, MAX_CUT)
    _check_free(field)
    weight = field.places[0][1]
    first = multiplied(_most_neighbours(field), multiplied(weight, weight))
    return multiplied(first, power_of(_narrow_factor(field), depth - LEAST_NARROW))


def _check_free(field):
    if not is_free_field(field):
        raise Refused(("free",))


def _most_neighbours(field):
    return max([len(field.neighbours(place)) for place in range(field.size)])


def _narrow_factor(field):
    return multiplied(field.places[0][1], max(0, _most_neighbours(field) - 1))


def _depths(nodes):
    """The list of the depths of all nodes of a tree."""
    depths = [0]
    for node in nodes[1:]:
        depths.append(depths[node[1]] + 1)
    return depths


def _is_narrow(stretch, width):
    return compared(less(stretch[1], stretch[0]), width) <= 0


def _stretch(field, nodes, depth):
    """The cut stretch of a whole tree of walks: each node is ready when its turn comes, since parents stand ahead."""
    depths = _depths(nodes)
    ends = [_first_ends(field, node, depths[at] == depth) for at, node in enumerate(nodes)]
    for at in range(len(nodes) - 1, 0, -1):
        if depths[at] <= depth:
            place, parent, _ = nodes[at]
            table = field.whole_tie(nodes[parent][0], place)
            low, high = _in_order(factor_of(table, ends[at][0]), factor_of(table, ends[at][1]))
            ends[parent] = (times_ratio(ends[parent][0], low), times_ratio(ends[parent][1], high))
    return (share_of_ratio(ends[0][0]), share_of_ratio(ends[0][1]))


def _first_ends(field, node, is_last):
    """The least and the greatest ratio of a node without children; `is_last` if it has just the depth of the cut."""
    place, _, mark = node
    if mark is not None:
        return (pinned_ratio(mark), pinned_ratio(mark))
    if is_last:
        return (pinned_ratio(0), pinned_ratio(1))
    return (own_ratio(field, place), own_ratio(field, place))


def _in_order(one, other):
    return (one, other) if compared(one, other) <= 0 else (other, one)
