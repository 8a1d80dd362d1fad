"""Bridges [B.1] to [B.3]."""

from itertools import product

from sumsalone.across.bridges import opposite_sums, table_of_sides, tournament_of_table, web_of_sides, web_of_table
from sumsalone.base.things import Table, Tournament, Web, sums_of
from sumsalone.count.counts import count_things
from sumsalone.errors import InvalidNumber, InvalidOperation, InvalidSums, InvalidTable, InvalidWeb, TooMany
from sumsalone.rows.rows import is_row
from sumsalone.sure.forced import is_possible
from sumsalone.webs.near import table_of_web
from sumsalone.wins.halves import table_of_tournament
from tests.kinds import EVERY, FORTY, NO_INTEGERS, NO_SUMS, NO_TABLES, NO_WEBS, THIRTY, Case
from tests.plain import all_tables, all_things, all_tournaments, all_webs, rows_up_to, under
from tests.some import some_tables, some_tournaments, some_webs, thing_told

NO_BOOLEANS = [value for value in EVERY if not isinstance(value, bool)]


def pairs_below(many):
    return [(i, j) for i in range(many) for j in range(i + 1, many)]


def sides_told(lines, tied):
    """The places and the ties of the web of a table."""
    many, columns = len(lines), len(lines[0])
    ties = [(i, many + j) for i in range(many) for j in range(columns) if lines[i][j]]
    return many + columns, tuple(sorted(ties + (pairs_below(many) if tied else [])))


class Squares(Case):
    def test_webs_there_and_back(self):
        for places in range(1, 5):
            for ties in all_webs(places):
                web = Web(places, *ties)
                self.assertEqual(web_of_table(table_of_web(web)), web)
        for web in some_webs(12, 20):
            self.assertEqual(web_of_table(table_of_web(web)), web)

    def test_tournaments_there_and_back(self):
        for players in range(1, 5):
            for beaten in all_tournaments(players):
                tournament = Tournament(*beaten)
                self.assertEqual(tournament_of_table(table_of_tournament(tournament)), tournament)
        for tournament in some_tournaments(12, 20):
            self.assertEqual(tournament_of_table(table_of_tournament(tournament)), tournament)

    def test_all_small_tables(self):
        for sizes in ((1, 1, 1), (1, 2, 2), (1, 3, 3), (2, 2, 2), (1, 2, 3), (1, 3, 2), (2, 1, 1)):
            square = sizes[1] == sizes[2] and sizes[0] == 1
            for cells in all_tables(*sizes):
                table = Table.of(sizes[0], cells)
                flat = square and not any(line[at] for at, line in enumerate(cells))
                both = product(range(len(cells)), repeat=2) if square else []
                pairs = [(cells[i][j], cells[j][i]) for i, j in both if i < j]
                if flat and all(one == other for one, other in pairs):
                    self.assertEqual(table_of_web(web_of_table(table)), table)
                else:
                    self.fails(InvalidOperation, web_of_table, table)
                if flat and all(one + other == 1 for one, other in pairs):
                    self.assertEqual(table_of_tournament(tournament_of_table(table)), table)
                else:
                    self.fails(InvalidOperation, tournament_of_table, table)

    def test_no_tables(self):
        for wrong in NO_TABLES:
            self.fails(InvalidTable, web_of_table, wrong)
            self.fails(InvalidTable, tournament_of_table, wrong)
        self.assertEqual(web_of_table(Table(1, (0,))), Web(1))
        self.assertEqual(tournament_of_table(Table(1, (0,))), Tournament(()))
        self.fails(InvalidOperation, web_of_table, Table(2, (0, 1), (1, 0)))


class Sides(Case):
    def test_there_and_back(self):
        for lines, columns in ((1, 1), (1, 3), (3, 1), (2, 2), (3, 2), (2, 3)):
            for cells in all_tables(1, lines, columns):
                table = Table.of(1, cells)
                for tied in (False, True):
                    web = web_of_sides(table, tied=tied)
                    self.assertEqual((web.places, web.ties), sides_told(cells, tied))
                    self.assertEqual(table_of_sides(web, lines, tied=tied), table)
                self.assertEqual(web_of_sides(table), web_of_sides(table, tied=False))
        for table in some_tables(60, most=8, caps=(1,)):
            for tied in (False, True):
                self.assertEqual(table_of_sides(web_of_sides(table, tied=tied), len(table), tied=tied), table)

    def test_all_small_webs(self):
        for places in range(2, 5):
            for ties in all_webs(places):
                web = Web(places, *ties)
                for lines in range(1, places):
                    between = [tie for tie in ties if tie[1] < lines]
                    columns = [tie for tie in ties if tie[0] >= lines]
                    for tied in (False, True):
                        if columns or between != (pairs_below(lines) if tied else []):
                            self.fails(InvalidOperation, table_of_sides, web, lines, tied=tied)
                        else:
                            table = table_of_sides(web, lines, tied=tied)
                            self.assertEqual((web_of_sides(table, tied=tied), len(table)), (web, lines))

    def test_some_ties_between_lines_only(self):
        web = Web(4, (0, 1), (0, 3), (1, 2))
        for tied in (False, True):
            self.fails(InvalidOperation, table_of_sides, web, 3, tied=tied)
        self.assertEqual(table_of_sides(web, 2, tied=True), Table(1, (0, 1), (1, 0)))
        self.fails(InvalidOperation, table_of_sides, web, 1)

    def test_tables_and_webs_are_as_many(self):
        for lines, columns in ((2, 2), (2, 3), (3, 2), (1, 3), (3, 3)):
            for one, other in product(rows_up_to(lines, columns), rows_up_to(columns, 2)):
                if sum(one) == sum(other):
                    sums = ("table", 1, one, other)
                    degrees = tuple(entry + lines - 1 for entry in one) + other
                    self.assertIs(is_possible(sums), is_possible(("web", degrees)))
                    self.assertEqual(count_things(sums), count_things(("web", degrees)))
        # Without tied lines there are other webs, too (B.3).
        self.assertGreater(count_things(("web", (1, 1, 1, 1))), count_things(("table", 1, (1, 1), (1, 1))))

    def test_sizes(self):
        for lines, columns, right in ((8, 8, True), (12, 4, True), (4, 12, True), (12, 5, False), (8, 9, False),
                                      (12, 12, False), (1, 12, True), (5, 11, True), (6, 11, False)):
            table = Table(1, *[(0,) * columns] * lines)
            for tied in (False, True):
                if right:
                    self.assertEqual(web_of_sides(table, tied=tied).places, lines + columns)
                else:
                    self.fails(TooMany, web_of_sides, table, tied=tied, keeps=("limit", 16))
        for places, lines, right in ((16, 12, True), (16, 4, True), (16, 13, False), (16, 3, False), (14, 1, False),
                                     (13, 1, True), (14, 13, False), (13, 12, True)):
            if right:
                self.assertEqual(len(table_of_sides(Web(places), lines)), lines)
            else:
                self.fails(TooMany, table_of_sides, Web(places), lines, keeps=("limit", 12))
        self.fails(InvalidOperation, table_of_sides, Web(16, (0, 1)), 13)
        self.fails(InvalidOperation, table_of_sides, Web(16, (14, 15)), 3)
        self.fails(InvalidOperation, web_of_sides, Table(2, *[(0,) * 12] * 12))

    def test_wrong_arguments(self):
        good = Table(1, (1, 0))
        for wrong in NO_TABLES:
            self.fails(InvalidTable, web_of_sides, wrong)
            self.fails(InvalidTable, web_of_sides, wrong, tied=None)
        for wrong in NO_BOOLEANS:
            self.fails(InvalidOperation, web_of_sides, good, tied=wrong)
            self.fails(InvalidOperation, table_of_sides, Web(2), 1, tied=wrong)
            self.fails_by_number(table_of_sides, 2, Web(2), 2, tied=wrong)
        self.fails(InvalidOperation, web_of_sides, Table(3, (1, 0)))
        for wrong in NO_WEBS:
            self.fails(InvalidWeb, table_of_sides, wrong, 1)
            self.fails(InvalidWeb, table_of_sides, wrong, None, tied=None)
        for wrong in NO_INTEGERS + [0, -1, 3, FORTY]:
            self.fails_by_number(table_of_sides, wrong, Web(3), wrong)
            self.fails_by_number(table_of_sides, wrong, Web(3, (1, 2), (0, 1)), wrong)
        for lines in (0, 1, 2):
            self.fails_by_number(table_of_sides, lines, Web(1), lines)
        self.first_decides(table_of_sides, [(Web(2), None, InvalidWeb), (1, 9, InvalidNumber)], (Web(3, (1, 2)), 1))


class Opposites(Case):
    def test_sums_of_opposites(self):
        for sizes in (("table", 1, 2, 2), ("table", 2, 2, 3), ("table", 3, 1, 2), ("web", 1), ("web", 4), ("tournament", 1),
                      ("tournament", 4)):
            for told in all_things(*sizes):
                thing = thing_told(told)
                self.assertEqual(opposite_sums(thing.sums), thing.opposite().sums)
                self.assertEqual(opposite_sums(opposite_sums(thing.sums)), thing.sums)
        for things in (some_tables(60), some_webs(16, 20), some_tournaments(16, 20)):
            for thing in things:
                self.assertEqual(opposite_sums(thing.sums), sums_of(thing.opposite()))

    def test_sums_that_are_not_possible(self):
        self.assertEqual(opposite_sums(("table", 1, (2, 0), (0, 0))), ("table", 1, (0, 2), (2, 2)))
        self.assertEqual(opposite_sums(("web", (1, 0))), ("web", (0, 1)))
        self.assertEqual(opposite_sums(("tournament", (2, 2, 2))), ("tournament", (0, 0, 0)))
        self.assertEqual(opposite_sums(("table", 9, (108,) * 12, (0,) * 12)), ("table", 9, (0,) * 12, (108,) * 12))

    def test_rows_under_others(self):
        for one, other in product(rows_up_to(3, 2), repeat=2):
            if under(one, other):
                self.assertTrue(under(opposite_sums(("web", one))[1], opposite_sums(("web", other))[1]))

    def test_number_of_things(self):
        for kind in ("web", "tournament"):
            for row in rows_up_to(4, 3):
                self.assertEqual(count_things((kind, row)), count_things(opposite_sums((kind, row))))

    def test_entries_too_great(self):
        for sums in (("table", 1, (3, 0), (1, 1)), ("table", 2, (1,), (3,)), ("table", 1, (0,), (2,)), ("web", (1,)),
                     ("web", (0, 2)), ("tournament", (THIRTY,)), ("tournament", (0, 1, 3)), ("table", 9, (THIRTY,), (1,))):
            self.fails(InvalidOperation, opposite_sums, sums)
        for wrong in NO_SUMS:
            self.fails(InvalidSums, opposite_sums, wrong)
        self.assertTrue(is_row(opposite_sums(("web", (15,) * 16))[1]))
