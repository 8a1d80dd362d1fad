"""Shapes, and their fillings with small numbers."""

from sumsalone.base.checks import check_within, is_whole, is_within
from sumsalone.errors import InvalidFilling, InvalidOperation, InvalidSums
from sumsalone.fill.shares import shares

MAX_CELLS = 42
MAX_ENTRIES = 8


def is_shape(value):
    """Whether the value is a shape."""
    if not isinstance(value, tuple) or not all([is_whole(many) and many >= 1 for many in value]):
        return False
    return all([many >= later for many, later in zip(value, value[1:])]) and sum(value) <= MAX_CELLS


def turned_shape(shape):
    """The shape whose rows are the columns of this one."""
    _check_shape(shape)
    return _turned(shape)


def is_filling(value):
    """Whether the value is a filling of some shape."""
    if not isinstance(value, tuple) or not all([_is_filled_row(row) for row in value]):
        return False
    if not is_shape(tuple([len(row) for row in value])):
        return False
    return all([entry < below for row, lower in zip(value, value[1:]) for entry, below in zip(row, lower)])


def shape_of(filling):
    """The shape of a filling."""
    _check_filling(filling)
    return tuple([len(row) for row in filling])


def entry_counts(filling, many):
    """The numbers of zeros, ones and so on, for so many different entries."""
    _check_filling(filling)
    check_within(many, 0, MAX_ENTRIES)
    entries = [entry for row in filling for entry in row]
    if any([entry >= many for entry in entries]):
        raise InvalidOperation("an entry is not less than the number of entries that are counted")
    return tuple([entries.count(entry) for entry in range(many)])


def count_fillings(shape, sums):
    """The number of fillings of the shape with these sums."""
    _check_shape_and_sums(shape, sums)
    # The rows of the cells with lesser entries only: each entry, from the greatest one on, can leave one row less.
    counts = {shape + (0,) * (len(sums) - len(shape)): 1}
    for many in sums[::-1]:
        counts = _counts_without_greatest(counts, many)
    return counts.get((), 0)


def each_filling(shape, sums):
    """Yield all fillings of the shape with these sums, in ascending order."""
    _check_shape_and_sums(shape, sums)
    waiting = [()] if sum(shape) == sum(sums) else []
    while len(waiting) > 0:
        entries = waiting.pop()
        if len(entries) == sum(shape):
            yield _in_rows(shape, entries)
        else:
            waiting.extend(_longer_by_one(shape, sums, entries)[::-1])


def _check_shape(value):
    """Raise the error for what is no shape."""
    if not is_shape(value):
        raise InvalidFilling("a shape is a tuple of integers from 1 on, none less than the next one, at most 42 in all")


def _check_filling(value):
    """Raise the error for what is no filling."""
    if not is_filling(value):
        raise InvalidFilling("no filling of a shape")


def _check_shape_and_sums(shape, sums):
    """Raise the errors for what is no shape, or are no numbers of entries."""
    _check_shape(shape)
    if not isinstance(sums, tuple) or len(sums) > MAX_ENTRIES:
        raise InvalidSums("the sums of a filling are a tuple of at most 8 integers")
    if not all([is_within(many, 0, MAX_CELLS) for many in sums]):
        raise InvalidSums("the sums of a filling are integers from 0 to 42")


def _is_filled_row(value):
    """Whether the value is a tuple of entries, none greater than the next one."""
    if not isinstance(value, tuple) or not all([is_within(entry, 0, MAX_ENTRIES - 1) for entry in value]):
        return False
    return all([entry <= later for entry, later in zip(value, value[1:])])


def _turned(shape):
    """The numbers of rows that are longer than 0, than 1, and so on."""
    longest = shape[0] if len(shape) > 0 else 0
    return tuple([len([many for many in shape if many > index]) for index in range(longest)])


def _counts_without_greatest(counts, many):
    """The numbers of ways to all rows that are left when the greatest entry, so often there, is taken away.

    No two cells of it stand in one column: so what is left of a row is not shorter than the next row was.
    """
    after = {}
    for rows, ways in counts.items():
        spare = [length - lower for length, lower in zip(rows, rows[1:])]
        for share in shares(many - rows[-1], spare):
            left = tuple([length - taken for length, taken in zip(rows, share)])
            after[left] = after.get(left, 0) + ways
    return after


def _longer_by_one(shape, sums, entries):
    """The beginnings of fillings that have one more entry than this one, ascending."""
    longer = [entries + (entry,) for entry, many in enumerate(sums) if entries.count(entry) < many]
    return [begun for begun in longer if _is_begun(shape, begun) and _can_be_filled(shape, sums, begun)]


def _is_begun(shape, entries):
    """Whether the last of these entries, row by row, may stand behind those to the left of it and above it."""
    rows = [row for row in _in_rows(shape, entries) if len(row) > 0]
    last = rows[-1]
    if len(last) > 1 and last[-2] > last[-1]:
        return False
    return len(rows) == 1 or rows[-2][len(last) - 1] < last[-1]


def _can_be_filled(shape, sums, entries):
    """Whether the other cells can be filled, too, if these entries fill the first ones, row by row.

    It is enough to find the entries of each column: columns that do not fit side by side can change what just one of
    them has, the lesser entries to the left. Of the columns that can take an entry, those take it that need most: they
    can take all greater entries, too.
    """
    needs, tops = _open_columns(shape, entries)
    for entry, many in enumerate(sums):
        takers = [(-need, column) for column, need in enumerate(needs) if need > 0 and tops[column] < entry]
        left = many - entries.count(entry)
        if len(takers) < left:
            return False
        for _, column in sorted(takers)[:left]:
            needs[column] -= 1
    return True


def _open_columns(shape, entries):
    """The lists with, for each column, how many entries it needs, and which entry all of these have to be above."""
    rows = _in_rows(shape, entries)
    needs, tops = [], []
    for column, height in enumerate(_turned(shape)):
        filled = [row[column] for row in rows if len(row) > column]
        needs.append(height - len(filled))
        tops.append(filled[-1] if len(filled) > 0 else -1)
    begun = [row for many, row in zip(shape, rows) if 0 < len(row) < many]
    for row in begun:
        # Equal entries may stand side by side.
        for column in range(len(row), len(tops)):
            tops[column] = max(tops[column], row[-1] - 1)
    return needs, tops


def _in_rows(shape, entries):
    """The entries in rows as the shape tells; with fewer entries than cells the last rows are shorter, or empty."""
    rows = []
    start = 0
    for many in shape:
        rows.append(tuple(entries[start:start + many]))
        start += many
    return tuple(rows)
