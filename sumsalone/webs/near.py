"""The possible rows that are nearest to a row, and webs as tables."""

from sumsalone.base.things import MAX_LINES, Web
from sumsalone.errors import InvalidOperation, InvalidTable, InvalidWeb, TooMany
from sumsalone.rows.roads import arranged
from sumsalone.rows.rows import check_row, descending, evenly_dealt, is_row
from sumsalone.tables.squares import is_without_diagonal, square_table
from sumsalone.webs.rows import greatest_lack, has_web, web_of


def fewest_away(degrees):
    """The fewest units that have to be taken away until the row is possible."""
    away = greatest_lack(degrees)
    return away + (sum(degrees) - away) % 2


def nearest(degrees):
    """A possible row from which the fewest units were taken, each from an entry that was greatest then."""
    away = fewest_away(degrees)
    return arranged(_cut(descending(degrees), away), degrees)


def is_nearest(degrees, value):
    """Whether the value is a possible row from which the fewest units were taken."""
    check_row(degrees)
    if not is_row(value) or len(value) != len(degrees):
        return False
    if not all([entry <= most for entry, most in zip(value, degrees)]):
        return False
    return sum(degrees) - sum(value) == fewest_away(degrees) and has_web(value)


def table_of_web(web):
    """The table of a web: both cells of each tie have 1."""
    if not isinstance(web, Web):
        raise InvalidWeb("no web")
    if web.places > MAX_LINES:
        raise TooMany(MAX_LINES)
    return square_table(web.places, web.ties + tuple([(other, one) for one, other in web.ties]))


def web_from(table):
    """A web whose degrees are the line sums of the table."""
    if not is_without_diagonal(table):
        raise InvalidTable("no square table with the cap 1 and 0 on the diagonal")
    if table.line_sums != table.column_sums or table.units % 2 == 1:
        raise InvalidOperation("the line sums are not the column sums, or their total is odd")
    # Such line sums are always possible as degrees, so the table itself is not needed any more (W.5).
    return web_of(table.line_sums)


def _cut(entries, many):
    """The sorted row with so many units less, taken from the greatest entries, level by level."""
    high = 1
    while high < len(entries) and sum(entries[:high]) - many < entries[high] * high:
        high += 1
    return evenly_dealt(sum(entries[:high]) - many, high) + entries[high:]
