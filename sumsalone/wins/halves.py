"""Tournaments as tables, and tables with the sums of such."""

from sumsalone.base.things import MAX_LINES, Table, Tournament
from sumsalone.errors import InvalidOperation, InvalidTable, InvalidTournament, TooMany
from sumsalone.tables.squares import is_without_diagonal, square_table
from sumsalone.wins.scores import tournament_of_wins


def table_of_tournament(tournament):
    """The table of a tournament: the cell in line i and column j has 1 if i beats j."""
    if not isinstance(tournament, Tournament):
        raise InvalidTournament("no tournament")
    if tournament.players > MAX_LINES:
        raise TooMany(MAX_LINES)
    wins = [(winner, loser) for winner, losers in enumerate(tournament.beaten) for loser in losers]
    return square_table(tournament.players, wins)


def is_half_table(value):
    """Whether the value is a table without diagonal that has the sums of the table of a tournament."""
    if not is_without_diagonal(value):
        return False
    return all([one + other == len(value) - 1 for one, other in zip(value.line_sums, value.column_sums)])


def halved(table):
    """A tournament whose scores are the line sums, and that keeps each result that the table tells."""
    if not isinstance(table, Table):
        raise InvalidTable("no table")
    if not is_half_table(table):
        raise InvalidOperation("no table with the sums of a tournament")
    lines = table.lines
    cells = [(i, j) for i in range(len(lines)) for j in range(len(lines))]
    told = [(i, j) for i, j in cells if lines[i][j] > lines[j][i]]
    # Each player is twice with as many others as never: it wins half of these results.
    unsettled = [(i, j) for i, j in cells if i < j and lines[i][j] == lines[j][i]]
    return tournament_of_wins(len(lines), told + _followed(unsettled))


def _followed(pairs):
    """All these pairs, followed in closed ways: each as the player at which the way leaves it, and the next one."""
    left = list(pairs)
    wins = []
    player = 0
    while len(left) > 0:
        here = [pair for pair in left if player in pair]
        if len(here) == 0:
            # The way is back at its beginning, and cannot go on: another one begins.
            player = left[0][0]
        else:
            left.remove(here[0])
            other = sum(here[0]) - player
            wins.append((player, other))
            player = other
    return wins
