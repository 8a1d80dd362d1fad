"""Rows that are turned, and rows near by: under another one by few moves, or with more in their entries."""

from sumsalone.base.checks import check_entry, check_within
from sumsalone.errors import InvalidOperation
from sumsalone.rows.rows import MAX_LENGTH, check_equal_measures, check_row, check_rows, descending
from sumsalone.rows.rows import evenly_dealt, least_row_above, prefix_sums


def level(row, index, cap):
    """How much of each entry lies in the level with this index, if the levels are as high as the cap."""
    return tuple([min(cap, max(0, entry - cap * index)) for entry in row])


def levels(row, many, cap):
    """How much of all entries lies in each of the first levels, so many."""
    return tuple([sum(level(row, index, cap)) for index in range(many)])


def turned(row, many, *, cap=1):
    """The row that is turned to so many entries with this cap."""
    check_row(row)
    check_within(many, 1, MAX_LENGTH)
    check_within(cap, 1, 10 ** 30 - 1)
    if max(row) > cap * many:
        raise InvalidOperation("an entry is greater than so many times the cap")
    return levels(row, many, cap)


def is_closed(row, many, *, cap=1):
    """Whether turning the row to so many entries and back gives its sorted row."""
    return levels(turned(row, many, cap=cap), len(row), cap) == descending(row)


def moves_needed(one, other):
    """The fewest units that have to be moved so that the first row comes under the second one."""
    check_rows(one, other)
    check_equal_measures(one, other)
    # The totals are equal, so this is 0 at least.
    return max([top - bound for top, bound in zip(prefix_sums(one), prefix_sums(other))])


def least_within(row, many):
    """The least sorted row that comes by moving so many units at most."""
    check_row(row)
    check_entry(many)
    inner = [top - many for top in prefix_sums(row)[:-1]]
    return least_row_above((0,) + tuple(inner) + (sum(row),))


def is_less(one, other):
    """Whether each prefix sum of the first row is at most that of the second one, of equal length."""
    check_rows(one, other)
    if len(one) != len(other):
        return False
    return all([top <= bound for top, bound in zip(prefix_sums(one), prefix_sums(other))])


def filled_up(one, other):
    """The least sorted row with the total of the second one, and with no entry less than in the first sorted row."""
    check_rows(one, other)
    if len(one) != len(other) or sum(one) > sum(other):
        raise InvalidOperation("the rows have unlike lengths, or the first one has the greater total")
    entries = descending(one)
    missing = sum(other) - sum(one)
    kept = len(entries) - 1
    # The entry ahead has to be filled up, too, as long as those behind it would come above it.
    while kept > 0 and sum(entries[kept:]) + missing > entries[kept - 1] * (len(entries) - kept):
        kept -= 1
    return entries[:kept] + evenly_dealt(sum(entries[kept:]) + missing, len(entries) - kept)
