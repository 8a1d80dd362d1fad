"""Bridges: tables as webs and tournaments, and sums as the opposite ones."""

from sumsalone.base.checks import check_within
from sumsalone.base.things import MAX_LINES, MAX_PLACES, Table, Web, is_sums
from sumsalone.errors import InvalidOperation, InvalidSums, InvalidTable, InvalidWeb, TooMany
from sumsalone.tables.squares import is_without_diagonal
from sumsalone.wins.scores import tournament_of_wins


def web_of_table(table):
    """The web of which this is the table."""
    _check_table(table)
    ones = _ones(table)
    if not is_without_diagonal(table) or not all([(other, one) in ones for one, other in ones]):
        raise InvalidOperation("not the table of a web")
    return Web.of(len(table), tuple([(one, other) for one, other in ones if one < other]))


def tournament_of_table(table):
    """The tournament of which this is the table."""
    _check_table(table)
    if not is_without_diagonal(table):
        raise InvalidOperation("not the table of a tournament")
    lines = table.lines
    if not all([lines[i][j] + lines[j][i] == 1 for i in range(len(lines)) for j in range(i)]):
        raise InvalidOperation("not the table of a tournament")
    return tournament_of_wins(len(lines), _ones(table))


def web_of_sides(table, *, tied=False):
    """The web with a tie between line and column for each cell with 1; if tied, also with all ties between lines."""
    _check_table(table)
    _check_tied(tied)
    if table.cap != 1:
        raise InvalidOperation("no table with the cap 1")
    many = len(table)
    places = many + len(table.lines[0])
    if places > MAX_PLACES:
        raise TooMany(MAX_PLACES)
    ties = [(line, many + column) for line, column in _ones(table)]
    return Web.of(places, tuple(ties + (_pairs_below(many) if tied else [])))


def table_of_sides(web, lines, *, tied=False):
    """The table of a web whose first places are its lines."""
    if not isinstance(web, Web):
        raise InvalidWeb("no web")
    check_within(lines, 1, web.places - 1)
    _check_tied(tied)
    if any([one >= lines for one, _ in web.ties]):
        raise InvalidOperation("there is a tie between columns")
    if [tie for tie in web.ties if tie[1] < lines] != (_pairs_below(lines) if tied else []):
        raise InvalidOperation("not just as many ties between lines as there have to be")
    if lines > MAX_LINES or web.places - lines > MAX_LINES:
        raise TooMany(MAX_LINES)
    columns = list(range(lines, web.places))
    return Table.of(1, tuple([tuple([int((line, end) in web.ties) for end in columns]) for line in range(lines)]))


def opposite_sums(sums):
    """The sums of the opposites of all things with these sums."""
    if not is_sums(sums):
        raise InvalidSums("no sums of a table, a web or a tournament")
    if sums[0] != "table":
        return (sums[0], _taken_from(len(sums[1]) - 1, sums[1]))
    _, cap, lines, columns = sums
    return ("table", cap, _taken_from(cap * len(columns), lines), _taken_from(cap * len(lines), columns))


def _check_table(value):
    """Raise the error for what is no table."""
    if not isinstance(value, Table):
        raise InvalidTable("no table")


def _check_tied(value):
    """Raise the error for what does not tell whether the lines are tied."""
    if not isinstance(value, bool):
        raise InvalidOperation("lines are tied, or they are not")


def _ones(table):
    """The list of the cells of a table that have 1, ascending."""
    return [(line, column) for line, cells in enumerate(table.lines) for column, number in enumerate(cells)
            if number == 1]


def _pairs_below(many):
    """The list of all pairs of different indices below a number, ascending."""
    return [(one, other) for one in range(many) for other in range(one + 1, many)]


def _taken_from(most, row):
    """The row in which each entry is taken from the greatest one that a thing can have."""
    if max(row) > most:
        raise InvalidOperation("an entry is greater than a thing can have it")
    return tuple([most - entry for entry in row])
