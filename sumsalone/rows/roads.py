"""Roads of units from a row down to another one."""

from sumsalone.base.checks import is_entry, is_within
from sumsalone.errors import InvalidOperation
from sumsalone.rows.rows import MAX_LENGTH, check_row, check_rows, descending, is_under, places_by_entry


def is_arranged_alike(one, other):
    """Whether no two entries of one row stand the other way round in the other row."""
    check_rows(one, other)
    if len(one) != len(other):
        return False
    # Equal entries of the first row are put in the order of the second one: any other pair has to be so already.
    told = [entry for _, entry in sorted(list(zip(one, other)))]
    return all([entry <= later for entry, later in zip(told, told[1:])])


def arranged(row, like):
    """The row with the entries of the first one, arranged like the second one."""
    check_rows(row, like)
    if len(row) != len(like):
        raise InvalidOperation("the rows have unlike lengths")
    entries = list(row)
    for place, entry in zip(places_by_entry(like), descending(row)):
        entries[place] = entry
    return tuple(entries)


def after(row, road):
    """The row behind a road."""
    check_row(row)
    behind = _row_behind(row, road)
    if behind is None:
        raise InvalidOperation("no road from this row")
    return behind


def units(road):
    """The sum of the amounts of a road."""
    if not isinstance(road, tuple) or not all([_is_step(step, MAX_LENGTH) for step in road]):
        raise InvalidOperation("no tuple of steps")
    return sum([step[2] for step in road])


def road(row, lower):
    """A road of fewest units, with fewer steps than the row has entries, from the first row to the second one."""
    check_rows(row, lower)
    if not is_arranged_alike(row, lower) or not is_under(lower, row):
        raise InvalidOperation("the second row is not arranged alike, and under the first one")
    places = places_by_entry(row)
    givers = [(place, row[place] - lower[place]) for place in places if row[place] > lower[place]]
    takers = [(place, lower[place] - row[place]) for place in places if row[place] < lower[place]]
    return _dealt(givers, takers)


def is_road(row, lower, value):
    """Whether the value is a road from the first row to the second one."""
    check_rows(row, lower)
    return _row_behind(row, value) == lower


def fewest_units(row, lower):
    """The fewest units of a road from the first row to one that is alike to the second one."""
    check_rows(row, lower)
    if not is_under(lower, row):
        raise InvalidOperation("the second row is not under the first one")
    return sum([abs(entry - other) for entry, other in zip(descending(row), descending(lower))]) // 2


def _is_step(value, length):
    """Whether the value is a triple of two different indices below the length, and of an amount."""
    if not isinstance(value, tuple) or len(value) != 3:
        return False
    if not is_within(value[0], 0, length - 1) or not is_within(value[1], 0, length - 1):
        return False
    return value[0] != value[1] and is_entry(value[2]) and value[2] >= 1


def _row_behind(row, value):
    """The row behind a road, or None if the value is no road from the row."""
    if not isinstance(value, tuple):
        return None
    entries = list(row)
    for step in value:
        if not _is_step(step, len(row)):
            return None
        giver, taker, many = step
        if entries[giver] < entries[taker] + 2 * many:
            return None
        entries[giver] -= many
        entries[taker] += many
    return tuple(entries)


def _dealt(givers, takers):
    """The steps that carry what the givers have too much to the takers, both in order; each step is done with one.

    The lower row is under the other one and arranged alike, so each giver is greater than its takers, and in the end
    it is none less than they are: so the steps fit.
    """
    steps = []
    taken = 0
    left = [many for _, many in takers]
    for giver, spare in givers:
        while spare > 0:
            many = min(spare, left[taken])
            steps.append((giver, takers[taken][0], many))
            spare -= many
            left[taken] -= many
            if left[taken] == 0:
                taken += 1
    return tuple(steps)
