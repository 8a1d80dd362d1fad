"""Tournaments and tables [H.1], [H.2]."""

from itertools import permutations
from random import Random

from sumsalone.base.things import Table, Tournament
from sumsalone.errors import InvalidOperation, InvalidTable, InvalidTournament, TooMany
from sumsalone.wins.halves import halved, is_half_table, table_of_tournament
from tests.kinds import NO_TABLES, NO_TOURNAMENTS, Case
from tests.plain import all_tournaments, sums_of_lines
from tests.some import some_tournaments
from tests.test_near import NO_SQUARES, squares


def lines_of(beaten):
    many = len(beaten)
    return tuple(tuple(int(j in beaten[i]) for j in range(many)) for i in range(many))


def is_half(lines):
    sums, others = sums_of_lines(lines)
    return all(one + other == len(lines) - 1 for one, other in zip(sums, others))


class Tables(Case):
    def test_tables_of_small_tournaments(self):
        for many in range(1, 6):
            for beaten in all_tournaments(many):
                tournament = Tournament(*beaten)
                table = table_of_tournament(tournament)
                self.assertEqual((table.cap, table.lines), (1, lines_of(beaten)))
                self.assertEqual(table.line_sums, tournament.scores)
                self.assertEqual(table.column_sums, tuple(many - 1 - score for score in tournament.scores))
                self.assertIs(is_half_table(table), True)
                self.assertEqual(halved(table), tournament)

    def test_greatest_tournaments(self):
        for tournament in some_tournaments(12, 20):
            self.assertEqual(halved(table_of_tournament(tournament)), tournament)
        for players in (13, 16):
            for tournament in some_tournaments(players, 1):
                self.fails(TooMany, table_of_tournament, tournament, keeps=("limit", 12))

    def test_wrong_arguments(self):
        for wrong in NO_TOURNAMENTS:
            self.fails(InvalidTournament, table_of_tournament, wrong)
        for wrong in NO_TABLES:
            self.fails(InvalidTable, halved, wrong)
        for wrong in NO_SQUARES:
            self.assertIs(is_half_table(wrong), False)
            self.fails(InvalidOperation, halved, wrong)


class Halves(Case):
    def check(self, lines):
        table = Table(1, *lines)
        self.assertIs(is_half_table(table), True)
        found = halved(table)
        self.assertEqual(found.scores, table.line_sums)
        for i, j in permutations(range(len(lines)), 2):
            if lines[i][j] == 1 and lines[j][i] == 0:
                self.assertIs(found.beats(i, j), True)

    def test_all_small_tables(self):
        found = {many: set() for many in range(1, 5)}
        for many in range(1, 5):
            for lines in squares(many):
                if is_half(lines):
                    self.check(lines)
                    found[many].add(sums_of_lines(lines)[0])
                else:
                    self.assertIs(is_half_table(Table(1, *lines)), False)
                    self.fails(InvalidOperation, halved, Table(1, *lines))
        for many in found:
            scores = {tuple(len(losers) for losers in beaten) for beaten in all_tournaments(many)}
            self.assertEqual(found[many], scores)

    def test_greater_tables(self):
        random = Random(6)
        for many in (5, 7, 9, 12):
            for _ in range(30):
                cells = [[0] * many for _ in range(many)]
                for i in range(many):
                    for j in range(i):
                        winner, loser = (i, j) if random.random() < 0.5 else (j, i)
                        cells[winner][loser] = 1
                for _ in range(random.randint(1, 6)):
                    # An even ring of places in which each second pair becomes twice, and the others never.
                    ring = random.sample(range(many), random.choice([k for k in (4, 6, 8) if k <= many]))
                    pairs = list(zip(ring, ring[1:] + ring[:1]))
                    if all(cells[i][j] + cells[j][i] == 1 for i, j in pairs):
                        if self.ring_can_be_made(cells, pairs):
                            for at, (i, j) in enumerate(pairs):
                                cells[i][j] = cells[j][i] = int(at % 2 == 0)
                lines = tuple(tuple(row) for row in cells)
                self.assertTrue(is_half(lines))
                self.check(lines)

    def ring_can_be_made(self, cells, pairs):
        """All line sums and column sums keep their common total, as each place is once more twice and once more never."""
        wins = [cells[i][j] for i, j in pairs]
        return all(wins) or not any(wins)

    def test_pairs_that_are_twice_and_never(self):
        lines = ((0, 1, 0, 1), (1, 0, 1, 0), (0, 0, 0, 1), (0, 0, 1, 0))
        self.check(lines)
        # Two closed ways of such pairs that have no player in common.
        blocks = [[0] * 8 for _ in range(8)]
        for i in range(4):
            for j in range(4):
                blocks[i][j] = blocks[i + 4][j + 4] = lines[i][j]
                blocks[i][j + 4] = 1
        self.check(tuple(tuple(row) for row in blocks))

    def test_is_half_table(self):
        for value in NO_TABLES:
            self.assertIs(is_half_table(value), False)
        self.assertIs(is_half_table(Table(1, (0,))), True)
        self.assertIs(is_half_table(Table(2, (0,))), False)
        self.assertIs(is_half_table(Table(2, (0, 1), (0, 0))), False)
        self.assertIs(is_half_table(Table(1, (0, 1), (0, 0))), True)
        self.assertIs(is_half_table(Table(1, (1, 1), (0, 0))), False)
        self.assertIs(is_half_table(Table(1, (0, 0), (0, 0))), False)
        self.assertIs(is_half_table(Table(1, (0, 1, 0), (0, 0, 1))), False)
        self.assertEqual(halved(Table(1, (0,))), Tournament(()))
        self.judges_every_kind(is_half_table)
