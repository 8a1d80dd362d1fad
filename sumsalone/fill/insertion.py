"""Tables with the cap 1 as pairs of fillings: their pairs are put into a press, one after the other."""

from sumsalone.base.checks import check_within, is_whole
from sumsalone.base.things import Table
from sumsalone.errors import InvalidFilling, InvalidNumber, InvalidOperation, InvalidTable, NothingToUndo, TooMany
from sumsalone.fill.fillings import is_filling, shape_of, turned_shape

MAX_SIDE = 6


class Press:
    """Two fillings, left and right, that tell of the pairs that were put in."""

    def __init__(self, lines, columns):
        check_within(lines, 1, MAX_SIDE)
        check_within(columns, 1, MAX_SIDE)
        self._lines = lines
        self._columns = columns
        self._left = ()
        self._right = ()
        self._pairs = ()

    @classmethod
    def of(cls, table):
        """The press into which all pairs of a table were put."""
        if not isinstance(table, Table):
            raise InvalidTable("no table")
        if table.cap != 1:
            raise InvalidOperation("no table with the cap 1")
        if len(table.lines) > MAX_SIDE or len(table.lines[0]) > MAX_SIDE:
            raise TooMany(MAX_SIDE)
        press = cls(len(table.lines), len(table.lines[0]))
        for line, cells in enumerate(table.lines):
            for column, number in enumerate(cells):
                if number == 1:
                    press.put(line, column)
        return press

    @property
    def lines(self):
        """The number of lines."""
        return self._lines

    @property
    def columns(self):
        """The number of columns."""
        return self._columns

    @property
    def left(self):
        """The filling with the columns of the pairs."""
        return self._left

    @property
    def right(self):
        """The filling with the lines of the pairs."""
        return self._right

    @property
    def pairs(self):
        """The tuple of the pairs that were put in and not taken back, in order."""
        return self._pairs

    def put(self, line, column):
        """Put a pair in, and return the row and the index of the new entry of right."""
        check_within(line, 0, self._lines - 1)
        check_within(column, 0, self._columns - 1)
        if len(self._pairs) > 0 and self._pairs[-1] >= (line, column):
            raise InvalidOperation("pairs are put in in ascending order")
        self._left, index, row = _put_in(self._left, column)
        self._right = _with_end(self._right, row, line)
        self._pairs = self._pairs + ((line, column),)
        return (row, index)

    def back(self, *, many=1):
        """Take so many of the last pairs back, and return them, ascending."""
        if not is_whole(many) or many < 0:
            raise InvalidNumber(many)
        kept = len(self._pairs) - many
        if kept < 0:
            raise NothingToUndo(many)
        taken = self._pairs[kept:]
        for _ in taken:
            row, index = _last_place(self._right)
            self._right = _without_end(self._right, row)
            self._left, _ = _taken_out(self._left, index, row)
        self._pairs = self._pairs[:kept]
        return taken

    def __len__(self):
        return len(self._pairs)

    def __eq__(self, other):
        return (isinstance(other, Press) and self._lines == other._lines and self._columns == other._columns
                and self._pairs == other._pairs)

    def __str__(self):
        return f"press of {self._lines} lines, {self._columns} columns, {len(self._pairs)} pairs"


def fillings_of(table):
    """The pair of the left and the right filling of a table."""
    press = Press.of(table)
    return (press.left, press.right)


def table_of(lines, columns, left, right):
    """The table with so many lines and columns that has these two fillings."""
    check_within(lines, 1, MAX_SIDE)
    check_within(columns, 1, MAX_SIDE)
    _check_filling_below(left, columns)
    _check_filling_below(right, lines)
    if turned_shape(shape_of(left)) != shape_of(right):
        raise InvalidFilling("the shapes of the fillings are not the turned ones of one another")
    cells = [[0] * columns for _ in range(lines)]
    while len(right) > 0:
        row, index = _last_place(right)
        line = right[row][-1]
        right = _without_end(right, row)
        left, column = _taken_out(left, index, row)
        cells[line][column] = 1
    return Table.of(1, tuple([tuple(numbers) for numbers in cells]))


def _check_filling_below(value, many):
    """Raise the error for what is no filling with entries below this number."""
    if not is_filling(value) or any([row[-1] >= many for row in value]):
        raise InvalidFilling("no filling, or one with too great entries")


def _with_end(filling, row, entry):
    """The filling with one more entry at the end of a row, perhaps a new one."""
    longer = filling[row] if row < len(filling) else ()
    return filling[:row] + (longer + (entry,),) + filling[row + 1:]


def _without_end(filling, row):
    """The filling without the last entry of a row; with the only entry the row goes, too."""
    shorter = filling[row][:-1]
    return filling[:row] + ((shorter,) if len(shorter) > 0 else ()) + filling[row + 1:]


def _with_entry(filling, row, index, entry):
    """The filling with this entry in a cell."""
    changed = filling[row][:index] + (entry,) + filling[row][index + 1:]
    return filling[:row] + (changed,) + filling[row + 1:]


def _column(filling, index):
    """The entries at this index of the rows, from the first row on."""
    return [row[index] for row in filling if len(row) > index]


def _put_in(left, entry):
    """The left filling behind putting an entry in, and the row and the index of the cell that is new in it."""
    index = 0
    ahead = _count_less(_column(left, index), entry)
    while ahead < len(_column(left, index)):
        replaced = left[ahead][index]
        left = _with_entry(left, ahead, index, entry)
        entry = replaced
        index += 1
        ahead = _count_less(_column(left, index), entry)
    return _with_end(left, ahead, entry), ahead, index


def _count_less(entries, bound):
    """How many of the entries are less than the bound."""
    return len([entry for entry in entries if entry < bound])


def _last_place(right):
    """The row and the index of the entry of right that is newest: of the greatest ones the one most to the right."""
    greatest = max([row[-1] for row in right])
    places = [(len(entries) - 1, row) for row, entries in enumerate(right) if entries[-1] == greatest]
    index, row = max(places)
    return row, index


def _taken_out(left, row, index):
    """The left filling without this last cell of a row, and the entry that made it grow there when it was put in."""
    entry = left[row][-1]
    left = _without_end(left, row)
    for column in reversed(range(index)):
        # It was replaced by the entry that is the greatest one not above it.
        place = _count_less(_column(left, column), entry + 1) - 1
        replaced = left[place][column]
        left = _with_entry(left, place, column, entry)
        entry = replaced
    return left, entry
