"""What lies on a desk at one time, and the fields that come of another one by a change."""

from pinnedgaps.base.numbers import compared, number_text
from pinnedgaps.going.both import has_order
from pinnedgaps.twostate.fields import Field, is_place, is_tree, share


class Page:
    """Fields by their names, pledges, and the lines of the fields. It never changes."""

    def __init__(self, named, vows):
        self.named = {name: named[name] for name in sorted(named)}
        self.vows = vows
        self.texts = tuple([_line(name, self.named[name]) for name in self.named])


def news_between(before, after):
    """The pair of the ascending tuples of the lines that only the first page has, and that only the second one has."""
    return (_lines_alone(before, after), _lines_alone(after, before))


def broken_pledge(named, vows):
    """The first one of the pledges that does not hold for these fields, None if all hold."""
    for pledge in vows:
        if not _holds(named, pledge):
            return pledge
    return None


def weighed(field, place, weights):
    """The field with other weights of a place."""
    places = field.places
    return Field(places[:place] + (weights,) + places[place + 1:], field.ties)


def grown(field, weights):
    """The field with a further place behind all others."""
    return Field(field.places + (weights,), field.ties)


def tied(field, first, second, weights):
    """The field with these weights at a tie."""
    ties = field.ties
    ties[(first, second)] = weights
    return Field(field.places, ties)


def untied(field, first, second):
    """The field without a tie that is there."""
    ties = field.ties
    del ties[(first, second)]
    return Field(field.places, ties)


def _line(name, field):
    """The line of a field."""
    places = [_texts(weights) for weights in field.places]
    ties = [f"{low}-{high} {_texts(table[0] + table[1])}" for (low, high), table in field.ties.items()]
    if len(ties) == 0:
        ties = ["-"]
    return name + ": " + ", ".join(places) + " / " + ", ".join(ties)


def _texts(weights):
    return " ".join([number_text(weight) for weight in weights])


def _lines_alone(page, other):
    """The ascending tuple of the lines of a page that the other one does not have."""
    return tuple(sorted([text for text in page.texts if text not in other.texts]))


def _holds(named, pledge):
    """Whether a pledge holds for these fields."""
    if pledge[1] not in named:
        return False
    field = named[pledge[1]]
    if pledge[0] == "tree":
        return is_tree(field)
    if pledge[0] == "order":
        return has_order(field)
    if pledge[0] == "share":
        return _has_share(field, pledge[2], pledge[3], pledge[4])
    return pledge[2] == (field.size if pledge[0] == "places" else len(field))


def _has_share(field, place, low, high):
    """Whether there is this place, and its share of the state 1 is from one number to another one."""
    if not is_place(field, place):
        return False
    found = share(field, place, {})
    return compared(low, found) <= 0 and compared(found, high) <= 0
