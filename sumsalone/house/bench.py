"""A bench: a thing that changes, with promises that stay kept."""

from sumsalone.base.checks import is_entry, is_whole
from sumsalone.base.ends import is_place, most_between, number_at
from sumsalone.base.things import Table, is_any_thing, is_sums
from sumsalone.base.words import is_name
from sumsalone.errors import InvalidNumber, InvalidOperation, NothingToUndo, Refused, UnknownName
from sumsalone.roads.carried import moved, row_of
from sumsalone.rows.rows import is_row, is_under
from sumsalone.sure.forced import state_of

FULL = "full"
EMPTY = "empty"


class Bench:
    """A thing with promises; what is called can be taken back, and done again."""

    def __init__(self, thing):
        if not is_any_thing(thing):
            raise InvalidOperation("no table, web or tournament")
        # The moments, each with the name of the call that led to it, its thing and its promises, and which one is now.
        # None of this is ever changed: so it can be kept, and shared with twins.
        self._story = ((("", thing, ()),), 0)

    @property
    def thing(self):
        """The thing as it is now."""
        return self._now()[1]

    @property
    def sums(self):
        """The sums of the thing."""
        return self.thing.sums

    @property
    def row(self):
        """The line sums, degrees or scores of the thing."""
        return row_of(self.thing)

    @property
    def promises(self):
        """The dict from names to promises."""
        return {name: promise for name, promise in self._now()[2]}

    @property
    def deeds(self):
        """The names of the calls that changed the bench and have not been taken back, in order."""
        moments, at = self._story
        return tuple([deed for deed, _, _ in moments[1:at + 1]])

    def promise(self, name, *terms):
        """Make the promise that consists of the terms, under a new name."""
        if not is_name(name) or name in self or not _is_promise(terms):
            raise InvalidOperation("no new name, or no promise")
        if not _is_kept(self.thing, terms):
            raise Refused(name)
        self._go_on("promise", self.thing, tuple(sorted(list(self._now()[2]) + [(name, terms)])))

    def forget(self, name):
        """Go on without this promise."""
        if name not in self:
            raise UnknownName(name)
        self._go_on("forget", self.thing, tuple([told for told in self._now()[2] if told[0] != name]))

    def put(self, thing):
        """Put another thing in the place of this one."""
        if not is_any_thing(thing):
            raise InvalidOperation("no table, web or tournament")
        self._change("put", thing)

    def turn(self, place):
        """Make a place full if it was not full, otherwise empty."""
        self._change("turn", turned_at(self.thing, place))

    def carry(self, one, other):
        """Carry a unit from one index to another one."""
        self._change("carry", moved(self.thing, one, other))

    def undo(self, *, many=1):
        """Take so many calls back; return how many can be taken back then."""
        return self._go(-_checked(many), many)

    def redo(self, *, many=1):
        """Do so many calls again; return how many can be taken back then."""
        return self._go(_checked(many), many)

    def trial(self):
        """What a block is entered with, behind which the bench is as it was."""
        return Trial(self)

    def during(self, call):
        """What the call returns for the bench, which is as before afterwards."""
        story = self._story
        try:
            return call(self)
        finally:
            self._story = story

    def twin(self):
        """An independent copy of the bench."""
        twin = Bench(self.thing)
        twin._story = self._story
        return twin

    def _now(self):
        """The name of the last call, the thing, and the pairs of names and promises."""
        moments, at = self._story
        return moments[at]

    def _change(self, deed, thing):
        """Go on with another thing, if it keeps all promises."""
        promises = self._now()[2]
        for name, promise in promises:
            if not _is_kept(thing, promise):
                raise Refused(name)
        self._go_on(deed, thing, promises)

    def _go_on(self, deed, thing, promises):
        """Begin a new moment behind this one; those behind it are lost."""
        moments, at = self._story
        self._story = (moments[:at + 1] + ((deed, thing, promises),), at + 1)

    def _go(self, steps, many):
        """Go to the moment so many steps from here; return how many moments lie behind it."""
        moments, at = self._story
        if not 0 <= at + steps < len(moments):
            raise NothingToUndo(many)
        self._story = (moments, at + steps)
        return at + steps

    def __getitem__(self, name):
        if name not in self:
            raise UnknownName(name)
        return self.promises[name]

    def __iter__(self):
        raise TypeError("a bench cannot be iterated over")

    def __contains__(self, value):
        return is_name(value) and value in self.promises

    def __len__(self):
        return len(self.promises)

    def __eq__(self, other):
        return isinstance(other, Bench) and self.thing == other.thing and self.promises == other.promises

    def __str__(self):
        return f"bench with {self.thing}, {len(self.promises)} promises"


class Kept:
    """The story of a bench when a block was entered, and what was kept for the block around it, if any."""

    def __init__(self, story, around):
        self.story = story
        self.around = around


class Trial:
    """A block behind which a bench is as it was when the block was entered."""

    def __init__(self, bench):
        self._bench = bench
        self._kept = None

    def __enter__(self):
        self._kept = Kept(self._bench._story, self._kept)
        return self._bench

    def __exit__(self, *told):
        bench = self._bench
        bench._story = self._kept.story
        self._kept = self._kept.around


def turned_at(thing, place):
    """The thing in which a place is full if it was not full, otherwise empty."""
    if not is_place(thing.sums, place):
        raise InvalidOperation("no place of the thing")
    one, other = place
    if not isinstance(thing, Table):
        return thing.with_change(one, other)
    return thing.with_cell(one, other, 0 if thing.cell(one, other) == thing.cap else thing.cap)


def _checked(many):
    """The number of calls, if it is an integer from 0 on."""
    if not is_whole(many) or many < 0:
        raise InvalidNumber(many)
    return many


def _is_promise(terms):
    """Whether the terms have the form of a promise."""
    if len(terms) == 2:
        return terms[0] == "sums" and is_sums(terms[1]) or terms[0] == "under" and is_row(terms[1])
    if len(terms) == 3:
        return terms[0] in ("place", "sure") and _is_pair(terms[1]) and terms[2] in (FULL, EMPTY)
    return len(terms) == 4 and terms[0] == "entry" and all([is_entry(number) for number in terms[1:]])


def _is_pair(value):
    """Whether the value is a pair of integers from 0 on."""
    return isinstance(value, tuple) and len(value) == 2 and all([is_entry(index) for index in value])


def _is_kept(thing, promise):
    """Whether the promise is true of the thing."""
    word = promise[0]
    if word == "sums":
        return thing.sums == promise[1]
    if word == "under":
        return is_under(row_of(thing), promise[1])
    if word == "entry":
        _, index, least, most = promise
        return index < len(row_of(thing)) and least <= row_of(thing)[index] <= most
    _, place, state = promise
    if not is_place(thing.sums, place):
        return False
    if word == "place":
        return number_at(thing, place) == (most_between(thing.sums) if state == FULL else 0)
    return most_between(thing.sums) == 1 and state_of(thing.sums, place) == state
