"""Rows of numbers: which is under which, and all sorted rows of a length and a total."""

from sumsalone.base.checks import check_entry, check_within, is_entry, is_within
from sumsalone.errors import InvalidOperation, InvalidSums, TooMany

MAX_LENGTH = 64
MAX_TOTAL = 20


def is_row(value):
    """Whether the value is a tuple of 1 to 64 integers from 0 on, of at most thirty digits."""
    if not isinstance(value, tuple) or not 1 <= len(value) <= MAX_LENGTH:
        return False
    return all([is_entry(entry) for entry in value])


def check_row(value):
    """Raise the error for what is no row."""
    if not is_row(value):
        raise InvalidSums("a row is a tuple of 1 to 64 integers from 0 on, of at most thirty digits")


def check_rows(one, other):
    """Raise the error for the first of both that is no row."""
    check_row(one)
    check_row(other)


def check_equal_measures(one, other):
    """Raise the error for two rows with unlike lengths or totals."""
    if not have_equal_measures(one, other):
        raise InvalidOperation("the rows have unlike lengths or totals")


def have_equal_measures(one, other):
    """Whether two rows have equal lengths and totals."""
    return len(one) == len(other) and sum(one) == sum(other)


def descending(row):
    """The entries of what need not be a row, from the greatest on."""
    return tuple(sorted(row, reverse=True))


def places_by_entry(row):
    """The indices of a row, from the greatest entry on; of equal ones the lower index first."""
    return [place for _, place in sorted([(-entry, index) for index, entry in enumerate(row)])]


def greatest_places(row, many):
    """The ascending tuple of the indices of so many greatest entries; of equal ones the first."""
    return tuple(sorted(places_by_entry(row)[:many]))


def sums_so_far(entries):
    """The sums of the first entry, of the first two, and so on."""
    sums = []
    total = 0
    for entry in entries:
        total += entry
        sums.append(total)
    return tuple(sums)


def differences(sums):
    """The entries of which these are the sums of the first one, of the first two, and so on."""
    return tuple([later - earlier for earlier, later in zip((0,) + sums, sums)])


def evenly_dealt(total, length):
    """The sorted row of this length and total whose entries differ by at most 1."""
    share, left = divmod(total, length)
    return (share + 1,) * left + (share,) * (length - left)


def sorted_row(row):
    """The row with the same entries, descending."""
    check_row(row)
    return descending(row)


def prefix_sums(row):
    """The tuple of the sums of the k greatest entries, for k from 1 on."""
    check_row(row)
    return sums_so_far(descending(row))


def excess(row, number):
    """The sum of the amounts by which entries are greater than the number."""
    check_row(row)
    check_entry(number)
    return sum([entry - number for entry in row if entry > number])


def is_under(one, other):
    """Whether the first row is under the second one."""
    check_rows(one, other)
    return have_equal_measures(one, other) and _first_bar(one, other) is None


def bar(one, other):
    """The first k for which the k-th prefix sum of the first row is the greater one, or None."""
    check_rows(one, other)
    check_equal_measures(one, other)
    return _first_bar(one, other)


def is_bar(one, other, value):
    """Whether the k-th prefix sum of the first row is the greater one, with the value as k."""
    check_rows(one, other)
    check_equal_measures(one, other)
    if not is_within(value, 1, len(one)):
        return False
    return prefix_sums(one)[value - 1] > prefix_sums(other)[value - 1]


def _first_bar(one, other):
    """The bar of two rows of equal lengths that comes first, or None."""
    for index, (lower, upper) in enumerate(zip(prefix_sums(one), prefix_sums(other))):
        if lower > upper:
            return index + 1
    return None


def least_row_above(sums):
    """The least sorted row whose prefix sums, 0 the first of them, are none less than these."""
    corners = _corners(sums)
    tops = []
    for start, end in zip(corners, corners[1:]):
        # As much as 1 too steep or too flat may be better where the true slope is no integer.
        slope = (sums[end] - sums[start]) // (end - start)
        for k in range(start + 1, end + 1):
            tops.append(min(_height(sums, slope, k), _height(sums, slope + 1, k)))
    return differences(tuple(tops))


def _corners(sums):
    """The indices at which the least line above all points (i, sums[i]) bends down, with both ends."""
    corners = []
    for index in range(len(sums)):
        while len(corners) > 1 and not _bends_down(sums, corners[-2], corners[-1], index):
            corners.pop()
        corners.append(index)
    return corners


def _bends_down(sums, start, middle, end):
    """Whether the line over these three points is flatter behind the middle one."""
    return (sums[middle] - sums[start]) * (end - middle) > (sums[end] - sums[middle]) * (middle - start)


def _height(sums, slope, k):
    """How high the lowest line of this slope above all points (i, sums[i]) is over k."""
    return max([top + slope * (k - index) for index, top in enumerate(sums)])


class Order:
    """The sorted rows of a length and a total; it never changes."""

    def __init__(self, length, total):
        check_within(length, 1, MAX_LENGTH)
        check_entry(total)
        self._length = length
        self._total = total

    @property
    def length(self):
        """The number of entries."""
        return self._length

    @property
    def total(self):
        """The sum of the entries."""
        return self._total

    @property
    def greatest(self):
        """The row above all others."""
        return (self._total,) + (0,) * (self._length - 1)

    @property
    def least(self):
        """The row under all others."""
        return evenly_dealt(self._total, self._length)

    def meet(self, *rows):
        """The greatest sorted row under all of these."""
        self._check_rows(rows)
        if len(rows) == 0:
            return self.greatest
        sums = [prefix_sums(row) for row in rows]
        return differences(tuple([min(heights) for heights in zip(*sums)]))

    def join(self, *rows):
        """The least sorted row above all of these."""
        self._check_rows(rows)
        if len(rows) == 0:
            return self.least
        sums = [prefix_sums(row) for row in rows]
        return least_row_above((0,) + tuple([max(heights) for heights in zip(*sums)]))

    def covered(self, row):
        """The descending tuple of the sorted rows that the row covers."""
        self._check_rows((row,))
        entries = descending(row)
        lower = []
        for index, entry in enumerate(entries):
            for later in range(index + 1, len(entries)):
                gap = entry - entries[later]
                if gap == 2 or gap > 2 and later == index + 1:
                    lower.append(_with_unit_moved(entries, index, later))
        return tuple(sorted(set(lower))[::-1])

    def rows(self):
        """Yield all sorted rows, descending, one by one."""
        if self._total > MAX_TOTAL:
            raise TooMany(MAX_TOTAL)
        row = self.greatest
        while row is not None:
            yield row
            row = _next_row(row)

    def _check_rows(self, rows):
        """Raise the error for what is no row of this length and total."""
        if not all([row in self for row in rows]):
            raise InvalidOperation("an order takes rows of its own length and total")

    def __contains__(self, value):
        return is_row(value) and len(value) == self._length and sum(value) == self._total

    def __eq__(self, other):
        return isinstance(other, Order) and self._length == other._length and self._total == other._total

    def __str__(self):
        return f"rows of {self._length} entries, total {self._total}"


def _with_unit_moved(entries, index, later):
    """The sorted row behind a move of one unit."""
    changed = list(entries)
    changed[index] -= 1
    changed[later] += 1
    return descending(changed)


def _next_row(row):
    """The next sorted row, descending, of the same length and total, or None."""
    behind = 1
    for index in reversed(range(len(row) - 1)):
        behind += row[index + 1]
        most = row[index] - 1
        if most * (len(row) - 1 - index) >= behind:
            return row[:index] + (most,) + _filled_up_to(most, behind, len(row) - 1 - index)
    return None


def _filled_up_to(most, total, length):
    """The entries, so many, with this total of which the first ones are the most that is allowed."""
    entries = []
    for _ in range(length):
        entries.append(min(most, total - sum(entries)))
    return tuple(entries)
