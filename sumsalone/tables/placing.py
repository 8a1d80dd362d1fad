"""The most units that can be placed at most as sums tell, and the nearest sums that a table has."""

from sumsalone.base.checks import is_ascending
from sumsalone.base.things import Table
from sumsalone.rows.rows import greatest_places
from sumsalone.tables.making import check_table_sums, made_table, room


def most_units(sums):
    """The most units that a placing can have."""
    check_table_sums(sums)
    _, cap, lines, columns = sums
    return min(_bounds(cap, lines, columns))


def most_paper(sums):
    """A placing, and lines that show that none has more units."""
    check_table_sums(sums)
    _, cap, lines, columns = sums
    bounds = _bounds(cap, lines, columns)
    return (made_table(nearest_sums(sums)), greatest_places(lines, bounds.index(min(bounds))))


def is_most_paper(sums, value):
    """Whether the value is a most paper of the sums."""
    check_table_sums(sums)
    if not isinstance(value, tuple) or len(value) != 2:
        return False
    table, some = value
    _, cap, lines, columns = sums
    if not _is_placing(cap, lines, columns, table) or not is_ascending(some, len(lines)):
        return False
    return table.units == _bound(cap, lines, columns, some)


def fewest_taken(sums):
    """The fewest units that must be taken from all sums together until a table has them."""
    most = most_units(sums)
    return sum(sums[2]) + sum(sums[3]) - 2 * most


def nearest_sums(sums):
    """Sums of a table, each entry at most the given one, from which the fewest units were taken."""
    check_table_sums(sums)
    _, cap, lines, columns = sums
    less = _lessened(cap, lines, columns)
    return ("table", cap, less, _lessened(cap, columns, less))


def _bound(cap, lines, columns, some):
    """What these lines show: no placing has more units than the other lines and what these can hold."""
    return sum(lines) - sum([lines[line] for line in some]) + room(cap, len(some), columns)


def _bounds(cap, lines, columns):
    """The least that a set of so many lines can show, for each number of lines from 0 on."""
    return [_bound(cap, lines, columns, greatest_places(lines, many)) for many in range(len(lines) + 1)]


def _lessened(cap, lines, columns):
    """The lines, one after the other made as small as can be while just as many units can be placed.

    Without a line so many fewer units can be placed as it has to have. In the end no line has more than it holds in a
    placing of most units.
    """
    most = min(_bounds(cap, lines, columns))
    less = lines
    for line in range(len(lines)):
        without = less[:line] + (0,) + less[line + 1:]
        needed = most - min(_bounds(cap, without, columns))
        less = less[:line] + (needed,) + less[line + 1:]
    return less


def _is_placing(cap, lines, columns, value):
    """Whether the value is a table with this cap, as many lines and columns, and sums that are at most these."""
    if not isinstance(value, Table) or value.cap != cap:
        return False
    if len(value.line_sums) != len(lines) or len(value.column_sums) != len(columns):
        return False
    held = value.line_sums + value.column_sums
    return all([number <= most for number, most in zip(held, lines + columns)])
