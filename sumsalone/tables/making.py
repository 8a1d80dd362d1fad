"""Tables by their sums: the table with them, or the lines or columns that bar it."""

from sumsalone.base.checks import check_within, is_ascending
from sumsalone.base.things import MAX_CAP, MAX_LINES, Table, is_sums, is_thing
from sumsalone.errors import InvalidOperation, InvalidSums
from sumsalone.rows.roads import road
from sumsalone.rows.rows import MAX_LENGTH, check_row, check_rows, greatest_places, places_by_entry, prefix_sums
from sumsalone.rows.turned import level, levels


def check_table_sums(sums):
    """Raise the error for what are no sums of a table."""
    if not is_sums(sums) or sums[0] != "table":
        raise InvalidSums("no sums of a table")


def room(cap, many, columns):
    """How much so many lines can hold at most, if the columns have these sums; or columns, of lines."""
    return sum([min(cap * many, number) for number in columns])


def greatest_row(cap, columns, many):
    """The first entries, so many, of the greatest row of these column sums."""
    check_within(cap, 1, MAX_CAP)
    check_row(columns)
    check_within(many, 1, MAX_LENGTH)
    return levels(columns, many, cap)


def filled_table(cap, columns, many):
    """The table with so many lines whose columns have these sums, and are filled from the first line on."""
    check_within(cap, 1, MAX_CAP)
    check_row(columns)
    if len(columns) > MAX_LINES:
        raise InvalidSums("a table has at most twelve columns")
    check_within(many, 1, MAX_LINES)
    if max(columns) > cap * many:
        raise InvalidOperation("a column sum is greater than so many times the cap")
    return Table.of(cap, tuple([level(columns, line, cap) for line in range(many)]))


def has_table(cap, lines, columns):
    """Whether there is a table with this cap and these line sums and column sums, of any number."""
    check_within(cap, 1, MAX_CAP)
    check_rows(lines, columns)
    return _fewest_barring(cap, lines, columns) is None and _fewest_barring(cap, columns, lines) is None


def made_table(sums):
    """A table with the sums, or None if there is none."""
    check_table_sums(sums)
    _, cap, lines, columns = sums
    if not has_table(cap, lines, columns):
        return None
    cells = [()] * len(lines)
    for filled, line in enumerate(places_by_entry(lines)):
        cells[line] = level(columns, filled, cap)
    # The lines now have the greatest row, arranged like the row that is wanted: units are carried down to it.
    steps = road(tuple([sum(numbers) for numbers in cells]), lines)
    for giver, taker, many in steps:
        cells[giver], cells[taker] = _with_units_carried(cells[giver], cells[taker], many)
    return Table.of(cap, tuple(cells))


def table_paper(sums):
    """A table with the sums, or lines or columns that bar them."""
    check_table_sums(sums)
    _, cap, lines, columns = sums
    many = _fewest_barring(cap, lines, columns)
    if many is not None:
        return ("lines", greatest_places(lines, many))
    many = _fewest_barring(cap, columns, lines)
    if many is not None:
        return ("columns", greatest_places(columns, many))
    return ("made", made_table(sums))


def is_table_paper(sums, value):
    """Whether the value is a table paper of the sums."""
    check_table_sums(sums)
    if not isinstance(value, tuple) or len(value) != 2:
        return False
    _, cap, lines, columns = sums
    if value[0] == "lines":
        return _is_barring(cap, lines, columns, value[1])
    if value[0] == "columns":
        return _is_barring(cap, columns, lines, value[1])
    return value[0] == "made" and is_thing(sums, value[1])


def _fewest_barring(cap, lines, columns):
    """The least number of greatest lines that bar the sums, or None; or of columns, if both are exchanged."""
    for index, total in enumerate(prefix_sums(lines)):
        if total > room(cap, index + 1, columns):
            return index + 1
    return None


def _is_barring(cap, lines, columns, some):
    """Whether this is a set of lines that bars the sums; or of columns, if both are exchanged."""
    if not is_ascending(some, len(lines)):
        return False
    return sum([lines[line] for line in some]) > room(cap, len(some), columns)


def _with_units_carried(giver, taker, many):
    """Both lines after so many units were carried to the second one, each in its column.

    The first one has more than the second one by at least twice as many units: so its cells that are greater suffice,
    and no cell of the second one comes above the greater one of both.
    """
    less, more = [], []
    for number, other in zip(giver, taker):
        carried = min(many, max(0, number - other))
        less.append(number - carried)
        more.append(other + carried)
        many -= carried
    return tuple(less), tuple(more)
