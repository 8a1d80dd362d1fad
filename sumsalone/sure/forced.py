"""Forced places: those that are full in all things with some sums, or empty in all."""

from sumsalone.base.checks import is_within
from sumsalone.base.ends import count_ends, is_place, joined_ends, number_at, pairs_of, places_of
from sumsalone.base.things import Table, Web, is_sums, is_thing, ordered
from sumsalone.errors import InvalidOperation, InvalidSums
from sumsalone.rows.rows import places_by_entry
from sumsalone.sure.papers import is_bar_of, paper_of
from sumsalone.tables.making import has_table, made_table
from sumsalone.webs.rows import has_web, web_of
from sumsalone.wins.scores import has_tournament, players_by_score, tournament_of, tournament_of_wins


def is_possible(sums):
    """Whether some thing has the sums."""
    if not is_sums(sums):
        raise InvalidSums("no sums of a table, a web or a tournament")
    if sums[0] == "table":
        return has_table(sums[1], sums[2], sums[3])
    return has_web(sums[1]) if sums[0] == "web" else has_tournament(sums[1])


def with_more(sums, place):
    """The sums with one unit more at a place, or None if an entry would be out of range."""
    _check_place(sums, place)
    return _shifted(sums, place, 1)


def with_less(sums, place):
    """The sums with one unit less at a place, or None if an entry would be out of range."""
    _check_place(sums, place)
    return _shifted(sums, place, -1)


def state_of(sums, place):
    """Whether the place is "full" in all things with the sums, "empty" in all, or "free"."""
    _check_possible_place(sums, place)
    return _state(sums, place)


def states(sums):
    """The dict from all places to their states."""
    _check_possible(sums)
    return {place: _state(sums, place) for place in places_of(sums)}


def forced_paper(sums, place):
    """What shows the state of a place: a bar, or two things."""
    state = state_of(sums, place)
    if state == "free":
        return ("free", _thing_with(sums, place, 1), _thing_with(sums, place, 0))
    shifted = _shifted(sums, place, 1 if state == "full" else -1)
    return (state, "range" if shifted is None else paper_of(shifted))


def is_forced_paper(sums, place, value):
    """Whether the value shows the state of a place."""
    _check_possible_place(sums, place)
    if not isinstance(value, tuple) or len(value) < 2:
        return False
    if len(value) == 3:
        return value[0] == "free" and _has_number(sums, place, 1, value[1]) and _has_number(sums, place, 0, value[2])
    if len(value) > 3 or value[0] not in ("full", "empty"):
        return False
    shifted = _shifted(sums, place, 1 if value[0] == "full" else -1)
    return value[1] == "range" if shifted is None else is_bar_of(shifted, value[1])


def parts_of(sums):
    """The ascending tuple of the parts of the sums, which hang together by free places."""
    told = states(sums)
    free = [pair for pair, place in zip(pairs_of(sums), places_of(sums)) if told[place] == "free"]
    parts = joined_ends(count_ends(sums), free)
    if sums[0] == "table":
        many = len(sums[2])
        parts = [(tuple([end for end in part if end < many]), tuple([end - many for end in part if end >= many]))
                 for part in parts]
    return tuple(sorted(parts))


def is_alone(sums):
    """Whether just one thing has the sums."""
    return "free" not in list(states(sums).values())


def _check_sums(sums):
    """Raise the error for what are no sums of a table with the cap 1, a web or a tournament."""
    if not is_sums(sums) or sums[0] == "table" and sums[1] != 1:
        raise InvalidSums("no sums of a table with the cap 1, a web or a tournament")


def _check_place(sums, place):
    """Raise the errors for what are no such sums, and for what is no place of them."""
    _check_sums(sums)
    if not is_place(sums, place):
        raise InvalidOperation("no place of these sums")


def _check_possible(sums):
    """Raise the errors for what are no such sums, and for those that no thing has."""
    _check_sums(sums)
    if not is_possible(sums):
        raise InvalidOperation("nothing has these sums")


def _check_possible_place(sums, place):
    """Raise the errors for what are no such sums, or no place of them, and for sums that no thing has."""
    _check_place(sums, place)
    _check_possible(sums)


def _shifted(sums, place, change):
    """The sums with so many units more at a place, or None if an entry would be out of range."""
    one, other = place
    if sums[0] == "table":
        _, cap, lines, columns = sums
        if not is_within(lines[one] + change, 0, len(columns)) or not is_within(columns[other] + change, 0, len(lines)):
            return None
        return ("table", cap, _with_added(lines, one, change), _with_added(columns, other, change))
    kind, row = sums
    changed = _with_added(_with_added(row, one, change), other, change if kind == "web" else -change)
    if not is_within(changed[one], 0, len(row) - 1) or not is_within(changed[other], 0, len(row) - 1):
        return None
    return (kind, changed)


def _with_added(row, index, change):
    """The row with so much more in one entry."""
    return row[:index] + (row[index] + change,) + row[index + 1:]


def _state(sums, place):
    """The state of a place of possible sums."""
    more = _shifted(sums, place, 1)
    if more is None or not is_possible(more):
        return "full"
    less = _shifted(sums, place, -1)
    return "empty" if less is None or not is_possible(less) else "free"


def _has_number(sums, place, number, value):
    """Whether the value is a thing with the sums in which the place is full (1), or empty (0)."""
    return is_thing(sums, value) and number_at(value, place) == number


def _thing_with(sums, place, number):
    """A thing with the sums in which the free place is full (1), or empty (0).

    The one end of the place gets its other units by the greatest entries, as in (W.3): exchanges that leave the place
    alone lead there from any such thing.
    """
    if sums[0] == "table":
        return _table_with(sums, place, number)
    return _web_with(sums[1], place, number) if sums[0] == "web" else _tournament_with(sums[1], place, number)


def _chosen(order, other, number, many):
    """So many indices, the first ones of this order, with the other end of the place or without it."""
    return [index for index in order if index != other][:many - number] + [other] * number


def _table_with(sums, place, number):
    """A table with the sums, and with this number in a free cell."""
    _, cap, lines, columns = sums
    line, column = place
    chosen = _chosen(places_by_entry(columns), column, number, lines[line])
    cells = tuple([int(index in chosen) for index in range(len(columns))])
    left = tuple([entry - taken for entry, taken in zip(columns, cells)])
    others = made_table(("table", cap, lines[:line] + lines[line + 1:], left)).lines
    return Table.of(cap, others[:line] + (cells,) + others[line:])


def _web_with(degrees, place, number):
    """A web with these degrees in which two places are tied (1), or not (0)."""
    one, other = place
    chosen = _chosen([index for index in places_by_entry(degrees) if index != one], other, number, degrees[one])
    left = tuple([0 if index == one else entry - int(index in chosen) for index, entry in enumerate(degrees)])
    return Web.of(len(degrees), web_of(left).ties + tuple([ordered(one, index) for index in chosen]))


def _tournament_with(scores, place, number):
    """A tournament with these scores in which the first player beats the second one (1), or not (0)."""
    one, other = place
    chosen = _chosen([player for player in players_by_score(scores) if player != one], other, number, scores[one])
    others = [player for player in range(len(scores)) if player != one]
    left = tournament_of(tuple([scores[player] - int(player not in chosen) for player in others]))
    wins = [(others[winner], others[loser]) for winner, losers in enumerate(left.beaten) for loser in losers]
    wins.extend([(one, player) if player in chosen else (player, one) for player in others])
    return tournament_of_wins(len(scores), wins)
