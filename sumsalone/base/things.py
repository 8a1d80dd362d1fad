"""The things that sums are told of: tables, webs and tournaments."""

from sumsalone.base.checks import check_within, is_ascending, is_within
from sumsalone.errors import InvalidOperation, InvalidSums, InvalidTable, InvalidTournament, InvalidWeb
from sumsalone.rows.rows import is_row

MAX_CAP = 9
MAX_LINES = 12
MAX_PLACES = 16


class Table:
    """A table with a cap and with lines of cells; it never changes."""

    def __init__(self, cap, *lines):
        if not _are_table(cap, lines):
            raise InvalidTable("a table has a cap from 1 to 9, and equally long lines of cells up to the cap")
        self._cap = cap
        self._lines = lines

    @classmethod
    def of(cls, cap, lines):
        """The table with this cap and a tuple of lines."""
        if not isinstance(lines, tuple):
            raise InvalidTable("the lines of a table are told by a tuple")
        return cls(cap, *lines)

    @property
    def cap(self):
        """The greatest number that a cell can have."""
        return self._cap

    @property
    def lines(self):
        """The tuple of the lines."""
        return self._lines

    @property
    def line_sums(self):
        """The tuple of the sums of the lines."""
        return tuple([sum(cells) for cells in self._lines])

    @property
    def column_sums(self):
        """The tuple of the sums of the columns."""
        return tuple([sum(cells) for cells in zip(*self._lines)])

    @property
    def units(self):
        """The sum of all cells."""
        return sum([sum(cells) for cells in self._lines])

    @property
    def sums(self):
        """The sums of the table."""
        return ("table", self._cap, self.line_sums, self.column_sums)

    def cell(self, line, column):
        """The number in this cell."""
        self._check_cell(line, column)
        return self._lines[line][column]

    def with_cell(self, line, column, number):
        """The table with this number in this cell."""
        self._check_cell(line, column)
        check_within(number, 0, self._cap)
        lines = list(self._lines)
        lines[line] = lines[line][:column] + (number,) + lines[line][column + 1:]
        return Table(self._cap, *lines)

    def flipped(self):
        """The table whose lines are the columns of this one."""
        columns = list(zip(*self._lines))
        return Table(self._cap, *columns)

    def opposite(self):
        """The table in which each cell is the cap less the cell of this one."""
        lines = [tuple([self._cap - number for number in cells]) for cells in self._lines]
        return Table(self._cap, *lines)

    def _check_cell(self, line, column):
        """Raise the error for what is no line, or then no column."""
        check_within(line, 0, len(self._lines) - 1)
        check_within(column, 0, len(self._lines[0]) - 1)

    def __len__(self):
        return len(self._lines)

    def __eq__(self, other):
        return isinstance(other, Table) and self._cap == other._cap and self._lines == other._lines

    def __str__(self):
        return f"table of {len(self._lines)} lines, {len(self._lines[0])} columns, cap {self._cap}"


class Web:
    """A web of places and of ties between them; it never changes."""

    def __init__(self, places, *ties):
        if not _are_web(places, ties):
            raise InvalidWeb("a web has 1 to 16 places, and different ties (i, j) of them with i < j")
        self._places = places
        self._ties = tuple(sorted(ties))

    @classmethod
    def of(cls, places, ties):
        """The web with so many places and a tuple of ties."""
        if not isinstance(ties, tuple):
            raise InvalidWeb("the ties of a web are told by a tuple")
        return cls(places, *ties)

    @property
    def places(self):
        """The number of places."""
        return self._places

    @property
    def ties(self):
        """The ascending tuple of the ties."""
        return self._ties

    @property
    def degrees(self):
        """The tuple of the numbers of ties of the places."""
        counts = [0] * self._places
        for one, other in self._ties:
            counts[one] += 1
            counts[other] += 1
        return tuple(counts)

    @property
    def sums(self):
        """The sums of the web."""
        return ("web", self.degrees)

    def beside(self, place):
        """The ascending tuple of the places that are tied to this one."""
        check_within(place, 0, self._places - 1)
        return tuple([one + other - place for one, other in self._ties if place in (one, other)])

    def are_tied(self, one, other):
        """Whether these two places are tied."""
        _check_two(one, other, self._places)
        return ordered(one, other) in self._ties

    def with_change(self, one, other):
        """The web in which these two places are tied if they were not, and not if they were."""
        _check_two_different(one, other, self._places)
        changed = ordered(one, other)
        ties = [tie for tie in self._ties if tie != changed]
        if len(ties) == len(self._ties):
            ties.append(changed)
        return Web(self._places, *ties)

    def opposite(self):
        """The web with just the other ties."""
        ties = [(i, j) for i in range(self._places) for j in range(i + 1, self._places) if (i, j) not in self._ties]
        return Web(self._places, *ties)

    def __len__(self):
        return len(self._ties)

    def __eq__(self, other):
        return isinstance(other, Web) and self._places == other._places and self._ties == other._ties

    def __str__(self):
        return f"web of {self._places} places, {len(self._ties)} ties"


class Tournament:
    """A tournament in which of each two players one has beaten the other; it never changes."""

    def __init__(self, *beaten):
        if not _are_tournament(beaten):
            raise InvalidTournament("of each two of 1 to 16 players just one beats the other")
        self._beaten = beaten

    @classmethod
    def of(cls, beaten):
        """The tournament with a tuple of those that each player has beaten."""
        if not isinstance(beaten, tuple):
            raise InvalidTournament("the results of a tournament are told by a tuple")
        return cls(*beaten)

    @property
    def players(self):
        """The number of players."""
        return len(self._beaten)

    @property
    def beaten(self):
        """The tuple of the ascending tuples of those that each player has beaten."""
        return self._beaten

    @property
    def scores(self):
        """The tuple of the numbers of wins of the players."""
        return tuple([len(losers) for losers in self._beaten])

    @property
    def sums(self):
        """The sums of the tournament."""
        return ("tournament", self.scores)

    def beats(self, one, other):
        """Whether the first player has beaten the second one."""
        _check_two(one, other, len(self._beaten))
        return other in self._beaten[one]

    def with_change(self, one, other):
        """The tournament in which the result of these two is turned about."""
        _check_two_different(one, other, len(self._beaten))
        winner, loser = (one, other) if other in self._beaten[one] else (other, one)
        beaten = list(self._beaten)
        beaten[winner] = tuple([player for player in beaten[winner] if player != loser])
        beaten[loser] = tuple(sorted(beaten[loser] + (winner,)))
        return Tournament(*beaten)

    def opposite(self):
        """The tournament in which all results are turned about."""
        beaten = []
        for player, losers in enumerate(self._beaten):
            beaten.append(tuple([one for one in range(len(self._beaten)) if one != player and one not in losers]))
        return Tournament(*beaten)

    def __len__(self):
        return len(self._beaten)

    def __eq__(self, other):
        return isinstance(other, Tournament) and self._beaten == other._beaten

    def __str__(self):
        return f"tournament of {len(self._beaten)} players"


def ordered(one, other):
    """The pair of both, the lesser one ahead."""
    return (min(one, other), max(one, other))


def is_any_thing(value):
    """Whether the value is a table, a web or a tournament."""
    return isinstance(value, (Table, Web, Tournament))


def is_sums(value):
    """Whether the value is a tuple of sums of a table, a web or a tournament."""
    if not isinstance(value, tuple) or len(value) == 0:
        return False
    if value[0] == "table":
        return len(value) == 4 and is_within(value[1], 1, MAX_CAP) and _are_lines_sums(value[2], value[3])
    return value[0] in ("web", "tournament") and len(value) == 2 and _is_short_row(value[1], MAX_PLACES)


def rows_of(sums):
    """The rows of sums: those of lines and of columns, or that of degrees or scores."""
    return sums[2:] if sums[0] == "table" else sums[1:]


def is_thing(sums, value):
    """Whether the value is a thing with these sums."""
    if not is_sums(sums):
        raise InvalidSums("no sums of a table, a web or a tournament")
    return is_any_thing(value) and value.sums == sums


def sums_of(thing):
    """The sums of a thing."""
    if not is_any_thing(thing):
        raise InvalidOperation("no table, web or tournament")
    return thing.sums


def _is_short_row(value, most):
    """Whether the value is a row with so many entries at most."""
    return is_row(value) and len(value) <= most


def _are_lines_sums(lines, columns):
    """Whether both are rows with as many entries as a table can have lines, and columns."""
    return _is_short_row(lines, MAX_LINES) and _is_short_row(columns, MAX_LINES)


def _are_table(cap, lines):
    """Whether a table has this cap and this tuple of lines."""
    if not is_within(cap, 1, MAX_CAP) or not 1 <= len(lines) <= MAX_LINES:
        return False
    if not all([isinstance(cells, tuple) and 1 <= len(cells) <= MAX_LINES for cells in lines]):
        return False
    if not all([len(cells) == len(lines[0]) for cells in lines]):
        return False
    return all([is_within(number, 0, cap) for cells in lines for number in cells])


def _are_web(places, ties):
    """Whether a web has so many places and this tuple of ties."""
    if not is_within(places, 1, MAX_PLACES):
        return False
    if not all([is_ascending(tie, places) and len(tie) == 2 for tie in ties]):
        return False
    return len(set(ties)) == len(ties)


def _are_tournament(beaten):
    """Whether a tournament has this tuple of tuples of those that each player has beaten."""
    many = len(beaten)
    if not 1 <= many <= MAX_PLACES or not all([is_ascending(losers, many) for losers in beaten]):
        return False
    if any([player in losers for player, losers in enumerate(beaten)]):
        return False
    return all([(i in beaten[j]) != (j in beaten[i]) for i in range(many) for j in range(i)])


def _check_two(one, other, many):
    """Raise the error for the first of both that is no index of so many places or players."""
    check_within(one, 0, many - 1)
    check_within(other, 0, many - 1)


def _check_two_different(one, other, many):
    """Raise the errors for what are no two different places or players."""
    _check_two(one, other, many)
    if one == other:
        raise InvalidOperation("two different places or players are asked for")
