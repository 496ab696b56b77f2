"""A desk: fields under names, pledges on them, and changes that can be taken back."""

from pinnedgaps.base.numbers import is_integer, is_name, is_number
from pinnedgaps.errors import (
    InvalidField, InvalidNumber, InvalidOperation, InvalidPledge, NothingToUndo, Refused, TooMany, UnknownName)
from pinnedgaps.twostate.fields import check_field, check_place, is_place
from pinnedgaps.twostate.weights import is_place_pair, is_tie_table
from pinnedgaps.use.pages import Page, broken_pledge, grown, news_between, tied, untied, weighed

MAX_FIELDS = 6
MAX_PLEDGES = 10
MAX_PLACES = 6


def is_pledge(value):
    """Whether the value is a pledge, whatever the desk."""
    if not isinstance(value, tuple) or len(value) < 2 or not is_name(value[1]):
        return False
    if value[0] in ("places", "ties"):
        return len(value) == 3 and _is_count(value[2])
    if value[0] in ("tree", "order"):
        return len(value) == 2
    if value[0] != "share" or len(value) != 5:
        return False
    return _is_count(value[2]) and is_number(value[3]) and is_number(value[4])


class Desk:
    """Up to six fields under different names, and up to ten pledges.

    All pages that can be turned to are kept, those of changes that were taken
    back among them. A page never changes, so twins and trials share them.
    """

    def __init__(self):
        self._page = Page({}, ())
        self._pages = (self._page,)
        self._at = 0

    def put(self, name, field):
        """With a further field."""
        self._check_new_name(name)
        check_field(field)
        self._check_room()
        return self._changed_field(name, field)

    def twice(self, name, one):
        """With a further field that is equal to another one."""
        self._check_new_name(name)
        field = self.field_named(one)
        self._check_room()
        return self._changed_field(name, field)

    def weigh(self, name, place, weights):
        """With other weights of a place."""
        field = self.field_named(name)
        check_place(field, place)
        _check_place_pair(weights)
        return self._changed_field(name, weighed(field, place, weights))

    def grow(self, name, weights):
        """With a further place of a field, behind all others."""
        field = self.field_named(name)
        _check_place_pair(weights)
        if field.size == MAX_PLACES:
            raise TooMany(MAX_PLACES)
        return self._changed_field(name, grown(field, weights))

    def tie(self, name, first, second, weights):
        """With these weights at the tie of two places."""
        field = self.field_named(name)
        _check_two_places(field, first, second)
        if not is_tie_table(weights):
            raise InvalidField("there must be a pair of two pairs of weights of a tie")
        return self._changed_field(name, tied(field, first, second, weights))

    def untie(self, name, first, second):
        """Without the tie of two places."""
        field = self.field_named(name)
        _check_two_places(field, first, second)
        if second not in field.neighbours(first):
            raise InvalidOperation("there is no tie between these places")
        return self._changed_field(name, untied(field, first, second))

    def drop(self, name):
        """Without a field."""
        self.field_named(name)
        named = self._page.named
        return self._changed({label: named[label] for label in named if label != name}, self._page.vows)

    def rename(self, names):
        """With other names of the fields; pledges keep theirs."""
        named = self._page.named
        if not _are_new_names(names, list(named)):
            raise InvalidOperation("there must be a dict from just the names on the desk to different names")
        return self._changed({names[label]: named[label] for label in named}, self._page.vows)

    def demand(self, pledge):
        """With a further pledge."""
        if not is_pledge(pledge):
            raise InvalidPledge("there must be a pledge")
        if pledge in self._page.vows:
            raise InvalidOperation("the pledge is there already")
        if len(self._page.vows) == MAX_PLEDGES:
            raise TooMany(MAX_PLEDGES)
        return self._changed(self._page.named, self._page.vows + (pledge,))

    def waive(self, pledge):
        """Without a pledge."""
        if not is_pledge(pledge) or pledge not in self._page.vows:
            raise InvalidOperation("there is no such pledge")
        return self._changed(self._page.named, tuple([vow for vow in self._page.vows if vow != pledge]))

    def undo(self, *, many=1):
        """Takes back so many changes."""
        _check_many(many, self._at)
        return self._turned_to(self._at - many)

    def redo(self, *, many=1):
        """Does so many changes again that were taken back."""
        _check_many(many, len(self._pages) - 1 - self._at)
        return self._turned_to(self._at + many)

    def trial(self):
        """What gives the desk to a `with` block, behind which all is as it was ahead of the block."""
        return Trial(self)

    def during(self, call):
        """What the call returns of the desk, behind which all is as it was."""
        with self.trial() as same:
            return call(same)

    def twin(self):
        """An independent copy, with all changes."""
        other = Desk()
        other._page = self._page
        other._pages = self._pages
        other._at = self._at
        return other

    def field_named(self, name):
        """The field with a name."""
        if not is_name(name) or name not in self._page.named:
            raise UnknownName(name)
        return self._page.named[name]

    @property
    def labels(self):
        """The ascending tuple of the names of the fields."""
        return tuple(self._page.named)

    @property
    def lines(self):
        """The tuple of the lines of the fields, by ascending names."""
        return self._page.texts

    @property
    def pledges(self):
        """The tuple of the pledges, in the order of demands."""
        return self._page.vows

    @property
    def changes(self):
        """How many changes can be taken back."""
        return self._at

    def __contains__(self, value):
        if isinstance(value, str):
            return value in self._page.texts
        return is_pledge(value) and value in self._page.vows

    def __len__(self):
        return len(self._page.vows)

    def __iter__(self):
        return iter(self._page.texts)

    def __eq__(self, other):
        if not isinstance(other, Desk):
            return False
        return self._page.named == other._page.named and self._page.vows == other._page.vows

    def __str__(self):
        return f"desk of {len(self._page.named)} fields, {len(self._page.vows)} pledges"

    def _check_new_name(self, name):
        if not is_name(name) or name in self._page.named:
            raise InvalidOperation("there must be a name that no field of the desk has")

    def _check_room(self):
        if len(self._page.named) == MAX_FIELDS:
            raise TooMany(MAX_FIELDS)

    def _changed_field(self, name, field):
        """The news of a change after which this field has this name."""
        return self._changed({**self._page.named, name: field}, self._page.vows)

    def _changed(self, named, vows):
        """The news of a change to these fields and pledges, all of which must hold."""
        broken = broken_pledge(named, vows)
        if broken is not None:
            raise Refused(broken)
        self._pages = self._pages[:self._at + 1] + (Page(named, vows),)
        return self._turned_to(self._at + 1)

    def _turned_to(self, at):
        """The news of turning to a page that is kept."""
        before = self._page
        self._at = at
        self._page = self._pages[at]
        return news_between(before, self._page)


class Trial:
    """Gives a desk to a `with` block, and leaves it behind the block as it was."""

    def __init__(self, desk):
        self._desk = desk
        self._kept = None

    def __enter__(self):
        # A block can stand in a block of the same trial: each one keeps what was kept outside of it.
        self._kept = Kept(self._desk._page, self._desk._pages, self._desk._at, self._kept)
        return self._desk

    def __exit__(self, kind, value, trace):
        desk = self._desk
        desk._page = self._kept.page
        desk._pages = self._kept.pages
        desk._at = self._kept.at
        self._kept = self._kept.outer


class Kept:
    """All that a desk has when a block is entered, and what was kept outside of the block."""

    def __init__(self, page, pages, at, outer):
        self.page = page
        self.pages = pages
        self.at = at
        self.outer = outer


def _is_count(value):
    """Whether the value is an integer of at least 0."""
    return is_integer(value) and value >= 0


def _are_new_names(value, labels):
    """Whether the value is a dict from just these ascending names to different names."""
    if not isinstance(value, dict) or not all([is_name(label) for label in value]):
        return False
    if sorted(value) != labels:
        return False
    named = [value[label] for label in labels]
    return all([is_name(name) for name in named]) and len(set(named)) == len(named)


def _check_place_pair(weights):
    if not is_place_pair(weights):
        raise InvalidField("there must be a pair of weights of a place")


def _check_two_places(field, first, second):
    """Refuses what are no two places of the field, the second one being greater."""
    check_place(field, first)
    if not is_place(field, second) or second <= first:
        raise InvalidNumber(second)


def _check_many(many, most):
    if not _is_count(many):
        raise InvalidNumber(many)
    if many > most:
        raise NothingToUndo(many)
