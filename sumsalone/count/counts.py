"""How many things have some sums, which ones, and by which shapes they are counted."""

from sumsalone.base.ends import most_between
from sumsalone.base.things import Table, Web, is_sums, rows_of
from sumsalone.errors import InvalidSums, TooMany
from sumsalone.fill.fillings import MAX_CELLS, count_fillings, turned_shape
from sumsalone.fill.shares import shares
from sumsalone.rows.rows import descending
from sumsalone.tables.making import has_table
from sumsalone.webs.nested import nested_rows
from sumsalone.webs.rows import has_web
from sumsalone.wins.scores import has_tournament, tournament_of_wins

MAX_COUNTED_CAP = 3
MAX_COUNTED = 7
MAX_COUNTED_HIGH = 5
MAX_TURNED = 6


def count_things(sums):
    """The number of things with these sums."""
    _check_countable(sums)
    # Only how many columns, places or players have how much left matters for what is behind.
    counts = {descending(sums[-1]): 1}
    for step in range(_count_steps(sums)):
        after = {}
        for left, ways in counts.items():
            total, others = _next_step(sums, step, left)
            for share in shares(total, _bounds(sums, others)):
                rest = descending(_less(others, share))
                after[rest] = after.get(rest, 0) + ways
        counts = after
    return sum([ways for left, ways in counts.items() if sum(left) == 0])


def each_thing(sums):
    """Yield all things with these sums, in ascending order of their lines, ties or results."""
    _check_countable(sums)
    waiting = [((), sums[-1])]
    while len(waiting) > 0:
        rows, left = waiting.pop()
        if len(rows) == _count_steps(sums):
            yield _thing_of(sums, rows)
        else:
            waiting.extend(_longer_by_one(sums, rows, left)[::-1])


def shape_counts(sums):
    """The dict from the shapes of the sums to the numbers of things that each of them adds."""
    if not is_sums(sums) or sums[0] == "table" and sums[1] != 1:
        raise InvalidSums("no sums of a table with the cap 1, a web or a tournament")
    _check_sizes(sums, MAX_TURNED if sums[0] == "table" else MAX_COUNTED)
    if max([max(row) for row in rows_of(sums)]) > MAX_CELLS:
        return {}
    counts = {shape: _count_by_shape(sums, shape) for shape in sorted(_shapes(sums))}
    return {shape: many for shape, many in counts.items() if many > 0}


def _check_countable(sums):
    """Raise the errors for what are no sums, and for sums of too great things."""
    if not is_sums(sums):
        raise InvalidSums("no sums of a table, a web or a tournament")
    if most_between(sums) > MAX_COUNTED_CAP:
        raise TooMany(MAX_COUNTED_CAP)
    _check_sizes(sums, MAX_COUNTED if most_between(sums) == 1 else MAX_COUNTED_HIGH)


def _check_sizes(sums, most):
    """Raise the error for too many lines or columns, places or players."""
    if max([len(row) for row in rows_of(sums)]) > most:
        raise TooMany(most)


def _count_steps(sums):
    """How many lines, places or players there are; each takes a step to its own share."""
    return len(rows_of(sums)[0])


def _next_step(sums, step, left):
    """How much is shared out in a step, and what the others have left, each of whom gets a part of it.

    A line gives units to the columns, a place ties to the places behind it, and a player wins to the players behind it.
    """
    if sums[0] == "table":
        return sums[2][step], left
    if sums[0] == "web":
        return left[0], left[1:]
    return len(left) - 1 - left[0], left[1:]


def _bounds(sums, others):
    """The greatest parts that the others can get in one step."""
    return [min(most_between(sums), entry) for entry in others]


def _less(row, share):
    """What is left of the entries of a row."""
    return tuple([entry - taken for entry, taken in zip(row, share)])


def _longer_by_one(sums, rows, left):
    """The beginnings with one more share, each with what the others have left, in the order of their things."""
    total, others = _next_step(sums, len(rows), left)
    found = [(rows + (share,), _less(others, share)) for share in shares(total, _bounds(sums, others))]
    possible = [(longer, rest) for longer, rest in found if _can_be_shared(sums, len(longer), rest)]
    # Ties come earlier the more of them go to the first places.
    return possible[::-1] if sums[0] == "web" else possible


def _can_be_shared(sums, steps, left):
    """Whether the steps behind so many can bring the others just what they have left."""
    if steps == _count_steps(sums):
        return sum(left) == 0
    if sums[0] == "table":
        return has_table(sums[1], sums[2][steps:], left)
    return has_web(left) if sums[0] == "web" else has_tournament(left)


def _thing_of(sums, rows):
    """The thing with these shares."""
    if sums[0] == "table":
        return Table.of(sums[1], rows)
    given = [(place, place + 1 + at, part) for place, share in enumerate(rows) for at, part in enumerate(share)]
    if sums[0] == "web":
        return Web.of(len(rows), tuple([(one, other) for one, other, part in given if part == 1]))
    return tournament_of_wins(len(rows), [(other, one) if part == 1 else (one, other) for one, other, part in given])


def _shapes(sums):
    """The shapes by which the sums are counted; of tables only those that can have fillings."""
    if sums[0] == "tournament":
        return [tuple(list(range(len(sums[1])))[:0:-1])]
    if sums[0] == "web":
        return [_without_zeros(row) for row in nested_rows(len(sums[1]), sum(sums[1]))]
    _, _, lines, columns = sums
    found = [()]
    for _ in range(len(lines)):
        found = [(many,) + shape for shape in found for many in range(max(shape + (0,)), len(columns) + 1)]
    return [_without_zeros(shape) for shape in found if sum(shape) == sum(lines)]


def _without_zeros(row):
    """The entries above 0."""
    return tuple([entry for entry in row if entry > 0])


def _count_by_shape(sums, shape):
    """The number of things that a shape adds."""
    if sums[0] == "table":
        return count_fillings(shape, sums[2]) * count_fillings(turned_shape(shape), sums[3])
    return count_fillings(shape, sums[1])
