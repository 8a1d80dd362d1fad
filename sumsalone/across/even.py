"""Even steps: each takes a unit from one sum, and gives it to another one, so that no two things fall together."""

from sumsalone.base.checks import check_within
from sumsalone.base.things import Table, Web
from sumsalone.errors import InvalidOperation
from sumsalone.roads.carried import moved_by, row_of


def even_step(thing, first, second, *, columns=False):
    """The thing behind an even step from the first to the second index."""
    _check_step(thing, first, second, columns)
    spots, _ = _alone(_upright(thing, columns), first, second, columns)
    if len(spots) == 0:
        raise InvalidOperation("all units of the first index are paired")
    return _upright(moved_by(_upright(thing, columns), first, second, spots[-1]), columns)


def back_step(thing, first, second, *, columns=False):
    """The thing from which the even step from the first to the second index leads to this one."""
    _check_step(thing, first, second, columns)
    _, spots = _alone(_upright(thing, columns), first, second, columns)
    if len(spots) == 0:
        raise InvalidOperation("all units of the second index are paired")
    return _upright(moved_by(_upright(thing, columns), second, first, spots[0]), columns)


def steps_between(thing, first, second, *, columns=False):
    """The numbers of even steps that can be done one after the other, and that can be taken back."""
    _check_step(thing, first, second, columns)
    here, there = _alone(_upright(thing, columns), first, second, columns)
    return (len(here), len(there))


def _check_step(thing, first, second, columns):
    """Raise the errors for what is no thing, and for arguments between which there can be no step of it."""
    is_flat = columns is True and isinstance(thing, Table)
    most = len(thing.lines[0] if is_flat else row_of(thing)) - 1
    check_within(first, 0, most)
    check_within(second, 0, most)
    if not isinstance(columns, bool) or columns and not is_flat:
        raise InvalidOperation("only a table has steps between columns")
    if first == second:
        raise InvalidOperation("a step goes from one index to another one")


def _upright(thing, columns):
    """The thing, or the table with lines and columns exchanged if the step is one between columns."""
    return thing.flipped() if columns else thing


def _alone(thing, first, second, backwards):
    """The spots of the units of the first and of the second index that are not paired, each in order.

    A unit of the second index is paired with the next unit of the first one that is behind it and still free.
    """
    units = _units(thing, first, second, backwards)
    here, there = [], []
    for spot, is_first in units:
        if not is_first:
            there.append(spot)
        elif len(there) > 0:
            there.pop()
        else:
            here.append(spot)
    return here, there


def _units(thing, first, second, backwards):
    """The row of units between two indices: each tells its column, place or player, and whether it is of the first."""
    if isinstance(thing, Table):
        return _units_of_lines(thing, first, second, backwards)
    if isinstance(thing, Web):
        return _units_of_others(thing.places, thing.beside(first), thing.beside(second), first, second)
    beaten = thing.beaten
    between = [(second, True) if second in beaten[first] else (first, False)]
    return between + _units_of_others(thing.players, beaten[first], beaten[second], first, second)


def _units_of_lines(table, first, second, backwards):
    """The units between two lines of a table, column by column."""
    units = []
    cells = list(enumerate(list(zip(table.lines[first], table.lines[second]))))
    for column, (one, other) in cells[::-1] if backwards else cells:
        both = one + other
        units.extend([(column, True)] * (one - max(0, both - table.cap)))
        units.extend([(column, False)] * (min(both, table.cap) - one))
    return units


def _units_of_others(many, here, there, first, second):
    """The units for the other places or players that are with just one of both indices."""
    others = [other for other in range(many) if other not in (first, second)]
    return [(other, other in here) for other in others if (other in here) != (other in there)]
