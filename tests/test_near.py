"""Nearest rows of webs, and webs as tables (W.4), (W.5)."""

from itertools import combinations, product
from random import Random

from sumsalone.base.things import Table, Web
from sumsalone.errors import InvalidOperation, InvalidSums, InvalidTable, InvalidWeb, TooMany
from sumsalone.webs.near import fewest_away, is_nearest, nearest, table_of_web, web_from
from tests.kinds import NO_ROWS, NO_TABLES, NO_WEBS, THIRTY, Case
from tests.plain import all_webs, is_possible_web, rows_up_to, sums_of_lines
from tests.some import some_webs

SMALL = rows_up_to(1, 5) + rows_up_to(2, 5) + rows_up_to(3, 5) + rows_up_to(4, 4)
NO_SQUARES = [Table(2, (0,)), Table(1, (1,)), Table(1, (0, 1)), Table(1, (0,), (1,)), Table(2, (0, 1), (1, 0)),
              Table(1, (0, 1), (1, 1)), Table(1, (0, 1, 0), (1, 0, 0)), Table(1, (1, 0), (0, 1)),
              Table(9, (0, 1), (1, 0)), Table(1, (0, 1), (1, 0), (0, 0)), Table(1, (0, 1, 1), (1, 0, 1), (1, 1, 1))]


def squares(many):
    """The lines of all square tables with the cap 1 and 0 on the diagonal."""
    cells = [(i, j) for i, j in product(range(many), repeat=2) if i != j]
    for chosen in product((0, 1), repeat=len(cells)):
        number = dict(zip(cells, chosen))
        yield tuple(tuple(number.get((i, j), 0) for j in range(many)) for i in range(many))


def lower_rows(degrees):
    return product(*[range(entry + 1) for entry in degrees])


class Nearest(Case):
    def test_against_all_lower_rows(self):
        for degrees in SMALL:
            possible = [row for row in lower_rows(degrees) if is_possible_web(row)]
            fewest = sum(degrees) - max(sum(row) for row in possible)
            self.assertEqual(fewest_away(degrees), fewest)
            right = {row for row in possible if sum(degrees) - sum(row) == fewest}
            self.assertIn(nearest(degrees), right)
            self.assertIs(type(nearest(degrees)), tuple)
            self.assertIs(is_nearest(degrees, nearest(degrees)), True)

    def test_all_values_are_judged(self):
        for degrees in rows_up_to(3, 4) + [(3, 3, 1, 1), (5, 2, 2, 2), (2, 2, 2, 2), (4, 0, 4, 1), (5, 5, 5, 5)]:
            possible = [row for row in lower_rows(degrees) if is_possible_web(row)]
            fewest = sum(degrees) - max(sum(row) for row in possible)
            for value in rows_up_to(len(degrees), max(degrees) + 1):
                right = value in possible and sum(degrees) - sum(value) == fewest
                self.assertIs(is_nearest(degrees, value), right)

    def test_units_put_in_do_not_help(self):
        for degrees in rows_up_to(3, 4) + [(3, 3, 1, 1), (5, 2, 2, 2), (4, 0, 4, 1)]:
            possible = [row for row in rows_up_to(len(degrees), len(degrees)) if is_possible_web(row)]
            fewest = min(sum(abs(a - b) for a, b in zip(row, degrees)) for row in possible)
            self.assertEqual(fewest_away(degrees), fewest)

    def test_units_are_taken_at_their_places(self):
        self.assertEqual(sum(nearest((2, 2, 9, 2))), 8)
        self.assertTrue(is_nearest((2, 2, 9, 2), (2, 2, 2, 2)))
        self.assertTrue(is_nearest((2, 2, 9, 2), (2, 2, 3, 1)))
        self.assertFalse(is_nearest((2, 2, 9, 2), (2, 3, 2, 1)))
        self.assertFalse(is_nearest((2, 2, 9, 2), (3, 2, 2, 1)))

    def test_great_rows(self):
        random = Random(3)
        for length in (1, 2, 16, 17, 63, 64):
            for most in (1, length, 3 * length, THIRTY):
                degrees = tuple(random.randint(0, most) for _ in range(length))
                self.check_great(degrees)
            self.check_great((THIRTY,) * length)
            self.check_great((THIRTY,) + (0,) * (length - 1))
            self.check_great((THIRTY,) + (1,) * (length - 1))
        self.assertEqual(nearest((THIRTY,) * 64), (63,) * 64)
        self.assertEqual(fewest_away((THIRTY,) * 64), 64 * (THIRTY - 63))
        self.assertEqual((nearest((THIRTY,)), fewest_away((THIRTY,))), ((0,), THIRTY))
        self.assertEqual((nearest((0,)), fewest_away((0,))), ((0,), 0))

    def check_great(self, degrees):
        row = nearest(degrees)
        self.assertTrue(is_possible_web(row))
        self.assertTrue(all(0 <= entry <= most for entry, most in zip(row, degrees)))
        self.assertEqual(len(row), len(degrees))
        self.assertEqual(sum(degrees) - sum(row), fewest_away(degrees))
        self.assertIs(is_nearest(degrees, row), True)
        self.assertIs(is_nearest(row, row), True)
        self.assertEqual((nearest(row), fewest_away(row)), (row, 0))

    def test_all_else_is_refused(self):
        for value in ((2, 2), (2, 2, 2, 2, 0), [3, 2, 2, 1], (3, 2, 2, True), (3, 2, 2, "1"), (3, 2, 2, None),
                      (3, 2, 2, -1), (), None, Web(4), 3):
            self.assertIs(is_nearest((5, 2, 2, 2), value), False)
        for wrong in NO_ROWS:
            self.assertIs(is_nearest((5, 2, 2, 2), wrong), False)
        for degrees in ((0,), (1, 1), (3, 3, 1, 1), (THIRTY, 0)):
            self.judges_every_kind(is_nearest, degrees)

    def test_wrong_rows(self):
        for wrong in NO_ROWS:
            self.fails(InvalidSums, fewest_away, wrong)
            self.fails(InvalidSums, nearest, wrong)
            self.fails(InvalidSums, is_nearest, wrong, (0,))
            self.fails(InvalidSums, is_nearest, wrong, None)


class Halves(Case):
    def test_there_and_back(self):
        for places in range(1, 6):
            for ties in all_webs(places):
                web = Web(places, *ties)
                table = table_of_web(web)
                self.assertEqual(table.lines, tuple(tuple(int((min(i, j), max(i, j)) in ties) for j in range(places))
                                                    for i in range(places)))
                self.assertEqual((table.cap, table), (1, table.flipped()))
                back = web_from(table)
                self.assertEqual((back.places, back.degrees), (places, web.degrees))

    def test_greatest_webs(self):
        for web in list(some_webs(12, 20)) + [Web(12), Web(12, *combinations(range(12), 2))]:
            self.assertEqual(table_of_web(web).line_sums, web.degrees)
            self.assertEqual(web_from(table_of_web(web)).degrees, web.degrees)
        for places in (13, 16):
            self.fails(TooMany, table_of_web, Web(places), keeps=("limit", 12))

    def test_all_small_tables(self):
        for many in range(1, 5):
            for lines in squares(many):
                table = Table(1, *lines)
                sums, others = sums_of_lines(lines)
                if sums == others and sum(sums) % 2 == 0:
                    web = web_from(table)
                    self.assertEqual((web.places, web.degrees), (many, sums))
                else:
                    self.fails(InvalidOperation, web_from, table)

    def test_tables_that_are_not_their_mirror_image(self):
        random = Random(4)
        for many in (5, 8, 12):
            for _ in range(40):
                order = random.sample(range(many), many)
                cells = [[0] * many for _ in range(many)]
                for at in range(random.randint(0, 3)):
                    ring = random.sample(order, random.randint(2, many))
                    steps = list(zip(ring, ring[1:] + ring[:1]))
                    if not any(cells[i][j] for i, j in steps):
                        for i, j in steps:
                            cells[i][j] = 1
                table = Table(1, *[tuple(row) for row in cells])
                self.assertEqual(table.line_sums, table.column_sums)
                if table.units % 2:
                    self.fails(InvalidOperation, web_from, table)
                else:
                    self.assertEqual(web_from(table).degrees, table.line_sums)

    def test_two_rings_of_odd_length(self):
        three = ((0, 1, 0), (0, 0, 1), (1, 0, 0))
        table = Table(1, *[row + (0,) * 3 for row in three], *[(0,) * 3 + row for row in three])
        self.assertEqual(web_from(table).degrees, (1,) * 6)
        self.fails(InvalidOperation, web_from, Table(1, *three))
        one = [[0] * 8 for _ in range(8)]
        for ring in ((0, 1, 2), (3, 4, 5, 6, 7), (0, 3)):
            for at, place in enumerate(ring):
                one[place][ring[(at + 1) % len(ring)]] = 1
        table = Table(1, *[tuple(row) for row in one])
        self.assertEqual(web_from(table).degrees, (2, 1, 1, 2, 1, 1, 1, 1))

    def test_wrong_arguments(self):
        for wrong in NO_WEBS:
            self.fails(InvalidWeb, table_of_web, wrong)
        for wrong in NO_TABLES + NO_SQUARES:
            self.fails(InvalidTable, web_from, wrong)
        self.fails(InvalidOperation, web_from, Table(1, (0, 1), (0, 0)))
        self.assertEqual(web_from(Table(1, (0,))), Web(1))
