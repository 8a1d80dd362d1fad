"""Units apart: the most of them that stand in no common line, column or place in some thing with the sums."""

from sumsalone.base.checks import is_whole
from sumsalone.base.ends import is_place, number_at, places_of
from sumsalone.base.things import is_thing, rows_of
from sumsalone.both.parted import parted_paper
from sumsalone.both.sums import check_both_sums
from sumsalone.errors import InvalidNumber, InvalidOperation
from sumsalone.rows.rows import descending, greatest_places
from sumsalone.sure.forced import is_possible
from sumsalone.sure.papers import is_bar_of, paper_of


def lessened(sums, many):
    """The sums lessened by a number, or None if there is not so much to be lessened."""
    check_both_sums(sums)
    if not is_whole(many) or many < 0:
        raise InvalidNumber(many)
    if not _has_so_many(sums, many):
        return None
    return _with_rows(sums, [_lessened_row(row, chosen) for row, chosen in _chosen(sums, many)])


def most_apart(sums):
    """The most units that are apart in some thing with the sums."""
    _check_possible(sums)
    many = 0
    while _are_apart(sums, many + 1):
        many += 1
    return many


def apart_paper(sums):
    """A thing with the sums, as many units apart in it as there can be, and what shows that there are no more."""
    many = most_apart(sums)
    # The part takes one unit from each line, column or place that is lessened: so no two of them meet.
    share = _with_rows(sums, [_ones(row, chosen) for row, chosen in _chosen(sums, many)])
    _, thing, part = parted_paper(sums, share)
    units = tuple([place for place in places_of(sums) if number_at(part, place) > 0])
    over = lessened(sums, many + 1)
    return (thing, units, "range" if over is None else paper_of(over))


def is_apart_paper(sums, value):
    """Whether the value is an apart paper of the sums."""
    _check_possible(sums)
    if not isinstance(value, tuple) or len(value) != 3:
        return False
    thing, units, over = value
    if not is_thing(sums, thing) or not _are_units_apart(thing, units):
        return False
    left = lessened(sums, len(units) + 1)
    return over == "range" if left is None else is_bar_of(left, over)


def first_cover(sums):
    """The first pair of numbers of lines and columns that shows how many units are apart at most."""
    check_both_sums(sums)
    if sums[0] != "table" or sums[1] != 1:
        raise InvalidOperation("no sums of a table with the cap 1")
    _check_possible(sums)
    lines, columns = descending(sums[2]), descending(sums[3])
    bounds = [(e + f + e * f + sum(lines[e:]) - sum(columns[:f]), (e, f))
              for e in range(len(lines) + 1) for f in range(len(columns) + 1)]
    return min(bounds)[1]


def _check_possible(sums):
    """Raise the errors for what are no sums of a table or a web, and for those that no thing has."""
    check_both_sums(sums)
    if not is_possible(sums):
        raise InvalidOperation("nothing has these sums")


def _with_rows(sums, rows):
    """The sums with these rows in the place of their own ones."""
    return sums[:len(sums) - len(rows)] + tuple(rows)


def _count_ends_of(sums, many):
    """How many entries of each row so many units take."""
    return many if sums[0] == "table" else 2 * many


def _has_so_many(sums, many):
    """Whether there are so many lines and columns, or twice as many places, with entries above 0."""
    needed = _count_ends_of(sums, many)
    return all([len([entry for entry in row if entry > 0]) >= needed for row in rows_of(sums)])


def _chosen(sums, many):
    """Each row, and the indices of its greatest entries that so many units take."""
    return [(row, greatest_places(row, _count_ends_of(sums, many))) for row in rows_of(sums)]


def _lessened_row(row, chosen):
    """The row with one less in the entries with these indices."""
    return tuple([entry - int(index in chosen) for index, entry in enumerate(row)])


def _ones(row, chosen):
    """The row with 1 in the entries with these indices, and 0 in all others."""
    return tuple([int(index in chosen) for index in range(len(row))])


def _are_apart(sums, many):
    """Whether so many units are apart in some thing with these possible sums."""
    left = lessened(sums, many)
    return left is not None and is_possible(left)


def _are_units_apart(thing, value):
    """Whether the value is an ascending tuple of places with units of the thing that are apart."""
    if not isinstance(value, tuple) or not all([is_place(thing.sums, place) for place in value]):
        return False
    if not all([place < later for place, later in zip(value, value[1:])]):
        return False
    return all([number_at(thing, place) > 0 for place in value]) and _are_disjoint(thing.sums, value)


def _are_disjoint(sums, places):
    """Whether no two of these places have a line, a column, or a place of a web, in common."""
    firsts, seconds = [one for one, _ in places], [other for _, other in places]
    rows = [firsts, seconds] if sums[0] == "table" else [firsts + seconds]
    return all([len(set(row)) == len(row) for row in rows])
