"""Things that are carried along by moves: each takes one unit from an entry of the row, and gives it to another one."""

from sumsalone.base.checks import check_within, is_whole
from sumsalone.base.ends import gap, numbers_of
from sumsalone.base.things import Table, Web, is_any_thing, sums_of
from sumsalone.errors import InvalidOperation, InvalidSums
from sumsalone.rows.roads import road
from sumsalone.rows.rows import descending, is_row, places_by_entry
from sumsalone.tables.making import greatest_row
from sumsalone.webs.nested import is_nested_row
from sumsalone.wins.parts import count_rings


def row_of(thing):
    """The line sums, degrees or scores of a thing."""
    sums = sums_of(thing)
    return sums[2] if sums[0] == "table" else sums[1]


def moved_by(thing, i, j, chance):
    """The thing behind the move from i to j that this chance tells."""
    if isinstance(thing, Table):
        less = thing.with_cell(i, chance, thing.cell(i, chance) - 1)
        return less.with_cell(j, chance, thing.cell(j, chance) + 1)
    if chance == j:
        return thing.with_change(i, j)
    return thing.with_change(i, chance).with_change(chance, j)


def count_moves(thing, i, j):
    """The number of moves from i to j."""
    _check_indices(thing, i, j)
    return len(_chances(thing, i, j))


def moved(thing, i, j):
    """The thing behind a move from i to j."""
    _check_indices(thing, i, j)
    chances = _chances(thing, i, j)
    if len(chances) == 0:
        raise InvalidOperation("there is no move between these two")
    return moved_by(thing, i, j, chances[0])


def is_move(thing, i, j, value):
    """Whether the value is the thing behind a move from i to j."""
    _check_indices(thing, i, j)
    if not is_any_thing(value) or value.sums != _sums_behind(thing, i, j):
        return False
    # With these sums, no other thing is so near: a move changes two cells, two ties, and one result or two.
    return gap(numbers_of(thing), numbers_of(value)) <= 2


def carried(thing, row):
    """The things on a way down by moves to one with this row, as few as possible."""
    _check_row_like(thing, row)
    if not is_row(row):
        raise InvalidOperation("the row has too great entries to be under that of the thing")
    things = [thing]
    # What is not arranged alike, or not under the row of the thing, has no road.
    for giver, taker, many in road(row_of(thing), row):
        for _ in range(many):
            things.append(moved(things[-1], giver, taker))
    return tuple(things)


def is_carrying(thing, row, value):
    """Whether the value is a tuple of things on a way down by moves to one with this row."""
    _check_row_like(thing, row)
    return _is_way_down(value) and value[0] == thing and row_of(value[-1]) == row


def is_highest(thing):
    """Whether no move of another thing leads down to this one."""
    row = row_of(thing)
    if isinstance(thing, Table):
        return descending(row) == greatest_row(thing.cap, thing.column_sums, len(row))
    if isinstance(thing, Web):
        return is_nested_row(row)
    return count_rings(row) == 0


def raised(thing):
    """The things on a way up to a highest one, each by a move that leads down to the one ahead of it."""
    things = [thing]
    higher = _step_up(thing)
    while higher is not None:
        things.append(higher)
        higher = _step_up(higher)
    return tuple(things)


def is_raising(thing, value):
    """Whether the value is a tuple of things on a way up from this one to a highest one."""
    sums_of(thing)
    if not isinstance(value, tuple) or not _is_way_down(value[::-1]):
        return False
    return value[0] == thing and is_highest(value[-1])


def _check_indices(thing, i, j):
    """Raise the errors for what is no thing, and for what are no two different indices of its row."""
    most = len(row_of(thing)) - 1
    check_within(i, 0, most)
    check_within(j, 0, most)
    if i == j:
        raise InvalidOperation("a move goes from one index to another one")


def _check_row_like(thing, row):
    """Raise the errors for what is no thing, or no tuple of as many integers as its row has."""
    many = len(row_of(thing))
    if not isinstance(row, tuple) or len(row) != many or not all([is_whole(entry) and entry >= 0 for entry in row]):
        raise InvalidSums("a row of a thing is a tuple of as many integers from 0 on")


def _chances(thing, i, j):
    """The columns in which a unit can go from i to j, or the places or players over which it can; j itself, too."""
    if isinstance(thing, Table):
        cells = list(zip(thing.lines[i], thing.lines[j]))
        return [column for column, (giver, taker) in enumerate(cells) if giver > 0 and taker < thing.cap]
    if isinstance(thing, Web):
        taken = thing.beside(j)
        return [place for place in thing.beside(i) if place != j and place not in taken]
    return [player for player in thing.beaten[i] if player == j or j in thing.beaten[player]]


def _sums_behind(thing, i, j):
    """The sums behind a move from i to j, if there is one."""
    row = list(row_of(thing))
    row[i] -= 1
    row[j] += 1
    sums = thing.sums
    return sums[:2] + (tuple(row), sums[3]) if isinstance(thing, Table) else (sums[0], tuple(row))


def _is_way_down(value):
    """Whether the value is a tuple of at least one thing, each of which but the first comes from the one ahead."""
    if not isinstance(value, tuple) or len(value) == 0 or not all([is_any_thing(one) for one in value]):
        return False
    return all([_leads_down(upper, lower) for upper, lower in zip(value, value[1:])])


def _leads_down(upper, lower):
    """Whether a move that leads down makes the second thing of the first one."""
    entries = list(zip(row_of(upper), row_of(lower)))
    givers = [index for index, (before, behind) in enumerate(entries) if before > behind]
    takers = [index for index, (before, behind) in enumerate(entries) if before < behind]
    if len(givers) != 1 or len(takers) != 1:
        return False
    i, j = givers[0], takers[0]
    return entries[i][0] >= entries[j][0] + 2 and is_move(upper, i, j, lower)


def _step_up(thing):
    """The thing from which a move leads down to this one, or None if this one is highest.

    The greatest entry that can take a unit takes it from the least one that can give it: so the steps are few.
    """
    places = places_by_entry(row_of(thing))
    for at, high in enumerate(places):
        for low in places[:at:-1]:
            if len(_chances(thing, low, high)) > 0:
                return moved(thing, low, high)
    return None
