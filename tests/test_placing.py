"""Most units placed, and nearest sums (T.3), (T.4), [M.1]."""

from itertools import product

from sumsalone.base.things import Table, Web
from sumsalone.errors import InvalidSums
from sumsalone.tables.making import has_table, made_table
from sumsalone.tables.placing import fewest_taken, is_most_paper, most_paper, most_units, nearest_sums
from tests.kinds import EVERY, FORTY, THIRTY, Case
from tests.plain import all_tables, held, rows_up_to, subsets, sums_of_lines
from tests.some import some_tables
from tests.test_making import WRONG_SUMS


def shown(cap, lines, columns, some):
    """The number that a set of lines shows."""
    others = [lines[line] for line in range(len(lines)) if line not in some]
    return sum(others) + held(cap, len(some), columns)


def fits(table, lines, columns):
    told = sums_of_lines(table)
    return all(a <= b for a, b in zip(told[0] + told[1], lines + columns))


class Most(Case):
    def check(self, cap, lines, columns):
        sums = ("table", cap, lines, columns)
        most = min(shown(cap, lines, columns, some) for some in subsets(len(lines)))
        self.assertEqual(most_units(sums), most)
        table, some = most_paper(sums)
        self.assertEqual((table.cap, len(table), len(table.lines[0])), (cap, len(lines), len(columns)))
        self.assertTrue(fits(table.lines, lines, columns))
        self.assertEqual((table.units, shown(cap, lines, columns, some)), (most, most))
        self.assertEqual(some, tuple(sorted(set(some))))
        self.assertIs(is_most_paper(sums, (table, some)), True)
        self.assertEqual(fewest_taken(sums), sum(lines) + sum(columns) - 2 * most)
        self.check_nearest(sums, most)
        return most

    def check_nearest(self, sums, most):
        kind, cap, lines, columns = nearest_sums(sums)
        self.assertEqual((kind, cap, len(lines), len(columns)), ("table", sums[1], len(sums[2]), len(sums[3])))
        self.assertTrue(all(0 <= a <= b for a, b in zip(lines + columns, sums[2] + sums[3])))
        self.assertEqual((sum(lines), sum(columns)), (most, most))
        self.assertIs(has_table(cap, lines, columns), True)

    def test_against_all_tables(self):
        for cap, many, wide in ((1, 1, 2), (1, 2, 2), (2, 2, 2), (1, 2, 3), (1, 3, 2)):
            tables = list(all_tables(cap, many, wide))
            for lines, columns in product(rows_up_to(many, 3), rows_up_to(wide, 3)):
                placed = [sum(sum(line) for line in table) for table in tables if fits(table, lines, columns)]
                self.assertEqual(self.check(cap, lines, columns), max(placed))

    def test_papers_against_all_tables_and_sets(self):
        for sums in (("table", 1, (3, 1), (2, 2)), ("table", 2, (1, 3), (3, 1)), ("table", 1, (2, 0), (1, 2))):
            for lines, some in product(all_tables(sums[1], 2, 2), subsets(2)):
                right = fits(lines, sums[2], sums[3])
                right = right and sum(sum(line) for line in lines) == shown(*sums[1:], some)
                self.assertIs(is_most_paper(sums, (Table(sums[1], *lines), some)), right)

    def test_more_tables(self):
        for at, table in enumerate(some_tables(30)):
            lines, columns = table.line_sums[:6], table.column_sums
            if at % 3 == 0:
                lines = tuple(number + at for number in lines)
            self.check(table.cap, lines, columns)
            self.check(table.cap, columns[:6], lines)

    def test_great_tables(self):
        self.check(9, (THIRTY,) * 12, (THIRTY,) * 12)
        self.check(1, (THIRTY, 0, 3), (2, THIRTY))
        self.check(9, (54,) * 12, tuple(range(12)))
        self.assertEqual(most_units(("table", 9, (THIRTY,) * 12, (THIRTY,) * 12)), 1296)
        self.assertEqual(fewest_taken(("table", 9, (THIRTY,), (THIRTY,))), 2 * THIRTY - 18)

    def test_zeros(self):
        sums = ("table", 3, (0, 0), (0, 0, 0))
        self.assertEqual((most_units(sums), fewest_taken(sums), nearest_sums(sums)), (0, 0, sums))
        self.assertEqual(most_paper(sums)[0], Table(3, (0, 0, 0), (0, 0, 0)))
        self.check(1, (0,), (5, 5))

    def test_possible_sums_stay(self):
        for table in some_tables(20):
            self.assertEqual((nearest_sums(table.sums), fewest_taken(table.sums)), (table.sums, 0))
            self.assertEqual(most_paper(table.sums)[0].sums, table.sums)

    def test_nearest_sums_are_had(self):
        sums = ("table", 1, (100, 0, 3), (5, 0, 2))
        self.assertEqual(made_table(nearest_sums(sums)).units, most_units(sums))

    def test_papers_of_no_other_form(self):
        sums = ("table", 1, (3, 1), (2, 2))
        table = Table(1, (1, 1), (0, 1))
        self.assertIs(is_most_paper(sums, (table, (0,))), True)
        for some in ((), (1,), (0, 1), [0], (0, 0), (False,), (2,), (-1,), ("0",), 0, None, {0: 1}, ((0,),), (FORTY,)):
            self.assertIs(is_most_paper(sums, (table, some)), False)
        for other in (Table(2, (1, 1), (0, 1)), Table(1, (1, 1, 0), (0, 1, 0)), Table(1, (1, 1)), Web(2, (0, 1)), None,
                      Table(1, (1, 1), (0, 1), (0, 0)), table.lines, table.sums, Table(1, (1, 1), (0, 0)),
                      Table(1, (1, 1), (1, 1)), [table], "made"):
            self.assertIs(is_most_paper(sums, (other, (0,))), False)
        for value in ([table, (0,)], (table,), (table, (0,), (0,)), ((0,), table), ("made", table), table, None):
            self.assertIs(is_most_paper(sums, value), False)
        self.assertIs(is_most_paper(sums, (Table(1, (1, 1), (1, 0)), (0,))), True)
        for value in EVERY:
            self.assertIs(is_most_paper(sums, (value, (0,))), False)
            self.assertIs(is_most_paper(sums, (table, value)), value == (0,) and type(value[0]) is int)
        self.judges_every_kind(is_most_paper, sums)

    def test_wrong_sums(self):
        for wrong in WRONG_SUMS:
            for call in (most_units, most_paper, fewest_taken, nearest_sums):
                self.fails(InvalidSums, call, wrong)
            for value in (None, (Table(1, (0,)), ())):
                self.fails(InvalidSums, is_most_paper, wrong, value)
