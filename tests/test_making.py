"""Tables by their sums (T.1), (T.2), (T.4)."""

from itertools import permutations, product

from sumsalone.base.things import Table, Web
from sumsalone.errors import InvalidNumber, InvalidOperation, InvalidSums
from sumsalone.tables.making import (filled_table, greatest_row, has_table, is_table_paper, made_table, table_paper)
from tests.kinds import EVERY, FORTY, NO_INTEGERS, NO_ROWS, NO_SUMS, NO_TUPLES, THIRTY, Case
from tests.plain import all_tables, held, rows_up_to, subsets, sums_of_lines
from tests.some import some_tables

# Caps, numbers of lines, numbers of columns: all tables of these sizes are looked at.
SIZES = [(1, 1, 1), (3, 1, 2), (2, 3, 1), (1, 2, 3), (1, 3, 3), (2, 2, 2), (3, 2, 2), (1, 4, 2), (2, 2, 3), (1, 2, 4)]
OTHER_SUMS = [("web", (1, 1)), ("tournament", (1, 0)), ("web", (2, 2)), ("tournament", (1,))]
WRONG_SUMS = NO_SUMS + OTHER_SUMS


def possible(cap, lines, columns):
    return {sums_of_lines(table) for table in all_tables(cap, lines, columns)}


def barring(cap, lines, columns):
    """All ascending tuples of lines that bar these sums."""
    return [some for some in subsets(len(lines))
            if sum(lines[line] for line in some) > held(cap, len(some), columns)]


class Greatest(Case):
    def test_greatest_row(self):
        for cap, columns in product((1, 2, 3, 9), rows_up_to(3, 4) + [(40,), (9, 18, 27)]):
            for many in (1, 2, 5, 64):
                wanted = tuple(sum(min(cap, max(0, c - cap * i)) for c in columns) for i in range(many))
                self.assertEqual(greatest_row(cap, columns, many), wanted)
        self.assertEqual(greatest_row(9, (THIRTY,) * 64, 3), (576, 576, 576))
        self.assertEqual(greatest_row(1, (0,) * 64, 2), (0, 0))
        self.assertEqual(greatest_row(1, (64,), 64), (1,) * 64)

    def test_filled_table(self):
        for cap, columns in product((1, 2, 3), rows_up_to(3, 4)):
            for many in (1, 2, 4):
                if max(columns) > cap * many:
                    self.fails(InvalidOperation, filled_table, cap, columns, many)
                    continue
                table = filled_table(cap, columns, many)
                self.assertEqual((table.cap, len(table), table.column_sums), (cap, many, columns))
                self.assertEqual(table.line_sums, greatest_row(cap, columns, many))
                for column in table.flipped().lines:
                    self.assertEqual(column, tuple(sorted(column, reverse=True)))
                    self.assertLessEqual(len([cell for cell in column if 0 < cell < cap]), 1)
        self.assertEqual(filled_table(9, (108,) * 12, 12), Table(9, *[(9,) * 12] * 12))
        self.assertEqual(filled_table(9, (107,), 12).lines[-1], (8,))
        self.fails(InvalidOperation, filled_table, 9, (109,), 12)
        self.fails(InvalidOperation, filled_table, 9, (THIRTY,), 12)

    def test_wrong_arguments(self):
        for call in (greatest_row, filled_table):
            for wrong in NO_INTEGERS + [0, -1, 10, FORTY]:
                self.fails_by_number(call, wrong, wrong, (1,), 1)
                self.fails_by_number(call, wrong, wrong, (99,), 1)
            for wrong in NO_ROWS:
                self.fails(InvalidSums, call, 1, wrong, 1)
            self.first_decides(call, [(1, None, InvalidNumber), ((1,), [1], InvalidSums), (1, 0, InvalidNumber)],
                               later=(1, (99,), 1) if call == filled_table else None)
        for wrong in NO_INTEGERS + [0, -1, 65, FORTY]:
            self.fails_by_number(greatest_row, wrong, 1, (1,), wrong)
        for wrong in NO_INTEGERS + [0, -1, 13, FORTY]:
            self.fails_by_number(filled_table, wrong, 1, (1,), wrong)
            self.fails_by_number(filled_table, wrong, 1, (99,), wrong)
        self.fails(InvalidSums, filled_table, 1, (0,) * 13, 1)
        self.fails(InvalidSums, filled_table, 1, (9,) * 13, 99)


class Tables(Case):
    def test_against_all_tables(self):
        for cap, many, wide in SIZES:
            found = possible(cap, many, wide)
            most_line, most_column = cap * wide + 1, cap * many + 1
            for lines, columns in product(rows_up_to(many, most_line), rows_up_to(wide, most_column)):
                if sum(lines) == sum(columns) or max(lines + columns) <= 2:
                    self.check(cap, lines, columns, (lines, columns) in found)

    def check(self, cap, lines, columns, is_there):
        sums = ("table", cap, lines, columns)
        self.assertIs(has_table(cap, lines, columns), is_there)
        self.assertIs(has_table(cap, columns, lines), is_there)
        made, (kind, told) = made_table(sums), table_paper(sums)
        if is_there:
            self.assertEqual((made.sums, kind, told.sums), (sums, "made", sums))
        else:
            self.assertIsNone(made)
            one, other = (lines, columns) if kind == "lines" else (columns, lines)
            self.assertIn(kind, ("lines", "columns"))
            self.assertIn(told, barring(cap, one, other))
        self.assertIs(is_table_paper(sums, (kind, told)), True)

    def test_papers_against_all_sets(self):
        for cap, many, wide in ((1, 3, 2), (2, 2, 2), (1, 2, 3)):
            for lines, columns in product(rows_up_to(many, 3), rows_up_to(wide, 3)):
                sums = ("table", cap, lines, columns)
                for kind, one, other in (("lines", lines, columns), ("columns", columns, lines)):
                    bars = barring(cap, one, other)
                    for some in subsets(len(one)):
                        self.assertIs(is_table_paper(sums, (kind, some)), some in bars)
                    if bars:
                        self.assertFalse(has_table(cap, lines, columns))
                if sum(lines) != sum(columns):
                    self.assertIs(is_table_paper(sums, ("lines", tuple(range(many)))), sum(lines) > sum(columns) or
                                  tuple(range(many)) in barring(cap, lines, columns))

    def test_all_tables_are_accepted_as_papers(self):
        sums = ("table", 2, (3, 2), (2, 1, 2))
        for lines in all_tables(2, 2, 3):
            told = ("made", Table(2, *lines))
            self.assertIs(is_table_paper(sums, told), sums_of_lines(lines) == sums[2:])
        self.assertIs(is_table_paper(sums, ("made", Table(3, (1, 1, 1), (1, 0, 1)))), False)
        self.assertIs(is_table_paper(("table", 3, (3, 2), (2, 1, 2)), ("made", Table(3, (1, 1, 1), (1, 0, 1)))), True)

    def test_great_tables(self):
        for table in some_tables(60):
            made = made_table(table.sums)
            self.assertEqual(made.sums, table.sums)
            self.assertIs(is_table_paper(table.sums, ("made", table)), True)
            self.assertEqual(table_paper(table.sums)[0], "made")
            more = (table.line_sums[0] + 1,) + table.line_sums[1:]
            sums = ("table", table.cap, more, table.column_sums)
            self.assertEqual((table_paper(sums)[0], made_table(sums)), ("lines", None))
            sums = ("table", table.cap, table.column_sums, more)
            self.assertEqual((table_paper(sums)[0], made_table(sums)), ("columns", None))
        self.assertEqual(made_table(("table", 9, (108,) * 12, (108,) * 12)).opposite().units, 0)
        self.assertEqual(made_table(("table", 9, (54,) * 12, (54,) * 12)).units, 648)

    def test_sums_at_the_edge(self):
        """From the greatest row one step down is possible, and one step up is not."""
        for table in some_tables(40):
            top = filled_table(table.cap, table.column_sums, len(table)).line_sums
            self.assertIs(has_table(table.cap, top[::-1], table.column_sums), True)
            for i, j in product(range(len(top)), repeat=2):
                row = list(top)
                row[i] -= 1
                row[j] += 1
                if i != j and row[i] >= 0:
                    sums = ("table", table.cap, tuple(row), table.column_sums)
                    is_there = top[i] > top[j]
                    self.assertIs(has_table(*sums[1:]), is_there)
                    self.assertIs(made_table(sums) is not None, is_there)

    def test_any_order_of_lines(self):
        for lines in permutations((4, 3, 1, 0)):
            for columns in permutations((3, 3, 2)):
                self.assertEqual(made_table(("table", 2, lines, columns)).sums, ("table", 2, lines, columns))

    def test_great_entries(self):
        self.assertIs(has_table(9, (THIRTY,) * 64, (THIRTY,) * 64), False)
        self.assertIs(has_table(9, (576,) * 64, (576,) * 64), True)
        self.assertIs(has_table(9, (576,) * 63 + (575,), (576,) * 64), False)
        self.assertIs(has_table(1, (1,) * 64, (64,)), True)
        self.assertIs(has_table(1, (64,), (1,) * 64), True)
        self.assertIs(has_table(1, (63, 1), (1,) * 64), True)
        self.assertIs(has_table(1, (63, 2), (1,) * 64), False)
        for lines, columns in (((THIRTY,), (THIRTY,)), ((THIRTY, 0), (1,)), ((0,), (THIRTY, 3))):
            sums = ("table", 9, lines, columns)
            self.assertIsNone(made_table(sums))
            self.assertIs(is_table_paper(sums, table_paper(sums)), True)

    def test_zeros(self):
        for many, wide in ((1, 1), (12, 1), (3, 12)):
            sums = ("table", 5, (0,) * many, (0,) * wide)
            self.assertEqual(table_paper(sums), ("made", Table(5, *[(0,) * wide] * many)))
            self.assertIs(is_table_paper(sums, ("lines", ())), False)
            self.assertIs(is_table_paper(sums, ("columns", (0,))), False)

    def test_single_lines_and_columns_having_room_is_not_enough(self):
        self.assertIs(has_table(1, (2, 2, 0), (3, 1, 0)), False)
        self.assertEqual(made_table(("table", 2, (1, 1), (2,))), Table(2, (1,), (1,)))

    def test_papers_of_no_other_form(self):
        barred = ("table", 1, (3, 1), (2, 2))
        for told in ((0, 1), [0], (0, 0), (1, 0), (2,), (-1,), (False,), (True,), ("0",), (None,), 0, None, {0: 0},
                     ((0,),), (0, FORTY)):
            self.assertIs(is_table_paper(barred, ("lines", told)), False)
        self.assertIs(is_table_paper(barred, ("lines", (0,))), True)
        self.assertIs(is_table_paper(barred, ("columns", (0, 1))), True)
        for value in (["lines", (0,)], ("lines", (0,), 1), ("lines",), ("line", (0,)), ((0,), "lines"), (0,), ("", (0,)),
                      (True, (0,)), ("made", None), ("made", Web(2)), ("made", (0,)), ("made", barred)):
            self.assertIs(is_table_paper(barred, value), False)
        for kind in ("Made", "make", "lines", "columns", "", "odd", "bar", None, 1, ("made",), ["made"], Table(1, (1,))):
            self.assertIs(is_table_paper(("table", 1, (1,), (1,)), (kind, Table(1, (1,)))), False)
        for value in EVERY:
            for kind in ("lines", "columns", "made"):
                # True is equal to 1, but no line: so the values are compared as they are written.
                right = repr((kind, value)) in ("('lines', (0,))", "('columns', (0, 1))")
                self.assertIs(is_table_paper(barred, (kind, value)), right)
        self.judges_every_kind(is_table_paper, barred)
        self.judges_every_kind(is_table_paper, ("table", 1, (1,), (1,)))

    def test_wrong_arguments(self):
        for wrong in NO_INTEGERS + [0, -1, 10, FORTY]:
            self.fails_by_number(has_table, wrong, wrong, (1,), (1,))
            self.fails_by_number(has_table, wrong, wrong, None, ())
        for wrong in NO_ROWS:
            self.fails(InvalidSums, has_table, 1, wrong, (1,))
            self.fails(InvalidSums, has_table, 1, (1, 2), wrong)
        self.first_decides(has_table, [(1, 0, InvalidNumber), ((1,), [1], InvalidSums), ((1,), (), InvalidSums)])
        for wrong in WRONG_SUMS + NO_TUPLES:
            self.fails(InvalidSums, made_table, wrong)
            self.fails(InvalidSums, table_paper, wrong)
            self.fails(InvalidSums, is_table_paper, wrong, None)
            self.fails(InvalidSums, is_table_paper, wrong, ("lines", (0,)))
