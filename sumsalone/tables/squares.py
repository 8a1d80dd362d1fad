"""Square tables with the cap 1 and 0 on the diagonal, as webs and tournaments have them."""

from sumsalone.base.things import Table


def square_table(many, ones):
    """The table with the cap 1, so many lines and columns, and 1 in just these cells."""
    return Table.of(1, tuple([tuple([int((i, j) in ones) for j in range(many)]) for i in range(many)]))


def is_without_diagonal(value):
    """Whether the value is a table with the cap 1, as many lines as columns, and 0 on the diagonal."""
    if not isinstance(value, Table) or value.cap != 1 or len(value.lines[0]) != len(value.lines):
        return False
    return not any([cells[line] for line, cells in enumerate(value.lines)])
