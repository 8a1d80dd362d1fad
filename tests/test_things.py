"""Tables, webs, tournaments and their sums [0.1] to [0.9], [2.1]."""

from itertools import combinations, product

from sumsalone.base import things
from sumsalone.base.things import Table, Tournament, Web, is_sums, is_thing, sums_of
from sumsalone.errors import InvalidOperation, InvalidSums, InvalidTable, InvalidTournament, InvalidWeb
from tests.kinds import EVERY, FORTY, NO_INTEGERS, NO_SUMS, NO_TUPLES, THIRTY, Case
from tests.plain import all_tournaments, all_webs

GRID = Table(1, (1, 1, 0), (1, 0, 1))
PATH = Web(4, (0, 1), (1, 2), (2, 3))
RING = Tournament((1,), (2,), (0,))


class Constants(Case):
    def test_constants(self):
        self.assertEqual((things.MAX_CAP, things.MAX_LINES, things.MAX_PLACES), (9, 12, 16))


class Tables(Case):
    def fails_both(self, cap, *lines):
        self.fails(InvalidTable, Table, cap, *lines)
        self.fails(InvalidTable, Table.of, cap, lines)

    def test_sums(self):
        table = Table(9, (9, 0, 3), (1, 2, 0))
        self.assertEqual((table.cap, table.lines), (9, ((9, 0, 3), (1, 2, 0))))
        self.assertEqual((table.line_sums, table.column_sums, table.units), ((12, 3), (10, 2, 3), 15))
        self.assertEqual(table.sums, ("table", 9, (12, 3), (10, 2, 3)))
        self.assertEqual(Table.of(9, ((9, 0, 3), (1, 2, 0))), table)

    def test_least_and_greatest(self):
        self.assertEqual(Table(1, (0,)).sums, ("table", 1, (0,), (0,)))
        great = Table(9, *[(9,) * 12] * 12)
        self.assertEqual((great.units, len(great), great.line_sums), (1296, 12, (108,) * 12))
        self.assertEqual(great.opposite().units, 0)

    def test_wrong_arguments(self):
        for cap in NO_INTEGERS + [0, -1, 10, FORTY]:
            self.fails_both(cap, (0,))
        self.fails_both(1)
        self.fails_both(1, *[(0,)] * 13)
        self.fails_both(1, (0,) * 13)
        self.fails_both(1, ())
        self.fails_both(1, (), ())
        self.fails_both(1, (0, 0), (0,))
        self.fails_both(1, (0,), (0, 0))
        for line in NO_TUPLES:
            self.fails_both(1, line)
            self.fails_both(1, (0,), line)
        for number in NO_INTEGERS + [-1, 3, FORTY]:
            self.fails_both(2, (0, number))
            self.fails_both(2, (0, 0), (number, 0))
        self.fails(InvalidTable, Table.of, 0, None)

    def test_of_takes_tuples_only(self):
        for lines in NO_TUPLES + [[(0,)]]:
            self.fails(InvalidTable, Table.of, 1, lines)

    def test_cell(self):
        self.assertEqual([GRID.cell(i, j) for i in range(2) for j in range(3)], [1, 1, 0, 1, 0, 1])
        for wrong in NO_INTEGERS + [-1, 3, FORTY]:
            self.fails_by_number(GRID.cell, wrong, wrong, 0)
            self.fails_by_number(GRID.cell, wrong, wrong, 3)
            self.fails_by_number(GRID.cell, wrong, 0, wrong)
        self.fails_by_number(GRID.cell, 2, 2, 0)
        self.assertEqual((GRID.cell(0, 2), Table(3, (0, 1, 2)).cell(0, 1), Table(3, (1,), (2,)).cell(1, 0)), (0, 1, 2))

    def test_with_cell(self):
        table = Table(3, (1, 2), (0, 3))
        self.assertEqual(table.with_cell(1, 0, 3), Table(3, (1, 2), (3, 3)))
        self.assertEqual(table.with_cell(0, 1, 2), table)
        self.assertEqual(table.with_cell(0, 0, 0).lines, ((0, 2), (0, 3)))
        self.assertEqual(table.lines, ((1, 2), (0, 3)))
        for wrong in NO_INTEGERS + [-1, 4, FORTY]:
            self.fails_by_number(table.with_cell, wrong, 0, 0, wrong)
            self.fails_by_number(table.with_cell, wrong, 0, wrong, wrong)
            self.fails_by_number(table.with_cell, wrong, wrong, -1, -2)
        self.fails_by_number(table.with_cell, 2, 0, 2, 9)

    def test_flipped_and_opposite(self):
        table = Table(2, (0, 1, 2), (2, 2, 0))
        self.assertEqual(table.flipped(), Table(2, (0, 2), (1, 2), (2, 0)))
        self.assertEqual(table.opposite(), Table(2, (2, 1, 0), (0, 0, 2)))
        self.assertEqual(table.flipped().flipped(), table)
        self.assertEqual(table.opposite().opposite(), table)

    def test_words(self):
        self.assertEqual(str(GRID), "table of 2 lines, 3 columns, cap 1")
        self.assertEqual(str(Table(9, (0,))), "table of 1 lines, 1 columns, cap 9")
        self.assertEqual((len(GRID), len(GRID.flipped())), (2, 3))

    def test_comparison(self):
        others = [Table(2, (1, 1, 0), (1, 0, 1)), Table(1, (1, 0, 1), (1, 1, 0)), Table(1, (1, 1, 0)), GRID.lines]
        self.assert_compares(GRID, Table(1, (1, 1, 0), (1, 0, 1)), others + EVERY)

    def test_never_changes(self):
        self.assert_not_iterable(GRID)
        for name in ("cap", "lines", "line_sums", "column_sums", "units", "sums"):
            with self.assertRaises(AttributeError):
                setattr(GRID, name, 1)
        self.assertIsInstance(GRID.lines, tuple)
        self.assertIsInstance(GRID.lines[0], tuple)


class Webs(Case):
    def fails_both(self, places, *ties):
        self.fails(InvalidWeb, Web, places, *ties)
        self.fails(InvalidWeb, Web.of, places, ties)

    def test_sums(self):
        web = Web(5, (2, 3), (0, 4), (0, 2))
        self.assertEqual((web.places, web.ties), (5, ((0, 2), (0, 4), (2, 3))))
        self.assertEqual((web.degrees, web.sums), ((2, 0, 2, 1, 1), ("web", (2, 0, 2, 1, 1))))
        self.assertEqual(Web.of(5, ((0, 2), (2, 3), (0, 4))), web)

    def test_least_and_greatest(self):
        self.assertEqual((Web(1).ties, Web(1).degrees, len(Web(1))), ((), (0,), 0))
        great = Web.of(16, tuple(combinations(range(16), 2)))
        self.assertEqual((great.degrees, len(great), great.opposite()), ((15,) * 16, 120, Web(16)))

    def test_wrong_arguments(self):
        for places in NO_INTEGERS + [0, -1, 17, FORTY]:
            self.fails_both(places)
        for tie in NO_TUPLES + [(), (0,), (0, 0), (1, 0), (0, 3), (-1, 0), (0, 1, 2), (0, True), (False, 1),
                                (0, "1"), (0, None), [0, 1], (0, FORTY), ((0,), (1,))]:
            self.fails_both(3, tie)
            self.fails_both(3, (1, 2), tie)
        self.fails_both(3, (0, 1), (0, 1))
        self.fails_both(3, (0, 1), (1, 2), (0, 1))
        self.fails_both(1, (0, 1))
        self.fails(InvalidWeb, Web.of, 0, None)

    def test_of_takes_tuples_only(self):
        for ties in NO_TUPLES + [[(0, 1)]]:
            self.fails(InvalidWeb, Web.of, 2, ties)

    def test_beside_and_are_tied(self):
        web = Web(5, (2, 3), (0, 4), (0, 2))
        self.assertEqual([web.beside(place) for place in range(5)], [(2, 4), (), (0, 3), (2,), (0,)])
        self.assertEqual(Web(4, (2, 3), (0, 2), (1, 2)).beside(2), (0, 1, 3))
        for i, j in product(range(5), repeat=2):
            self.assertIs(web.are_tied(i, j), (min(i, j), max(i, j)) in web.ties)
        for wrong in NO_INTEGERS + [-1, 5, FORTY]:
            self.fails_by_number(web.beside, wrong, wrong)
            for call in (web.are_tied, web.with_change):
                self.fails_by_number(call, wrong, wrong, 0)
                self.fails_by_number(call, wrong, wrong, 5)
                self.fails_by_number(call, wrong, 0, wrong)

    def test_with_change(self):
        self.assertEqual(PATH.with_change(1, 2), Web(4, (0, 1), (2, 3)))
        self.assertEqual(PATH.with_change(2, 1), Web(4, (0, 1), (2, 3)))
        self.assertEqual(PATH.with_change(3, 0), Web(4, (0, 1), (0, 3), (1, 2), (2, 3)))
        self.assertEqual(len(PATH), 3)
        self.fails(InvalidOperation, PATH.with_change, 1, 1)
        self.fails_by_number(PATH.with_change, 4, 4, 4)

    def test_opposite(self):
        self.assertEqual(PATH.opposite(), Web(4, (0, 2), (0, 3), (1, 3)))
        pairs = list(combinations(range(4), 2))
        for ties in all_webs(4):
            self.assertEqual(Web.of(4, ties).opposite().ties, tuple(pair for pair in pairs if pair not in ties))
        self.assertEqual(Web(1).opposite(), Web(1))

    def test_words(self):
        self.assertEqual(str(PATH), "web of 4 places, 3 ties")
        self.assertEqual((str(Web(1)), str(Web(2, (0, 1)))), ("web of 1 places, 0 ties", "web of 2 places, 1 ties"))

    def test_comparison(self):
        others = [Web(5, *PATH.ties), Web(4, (0, 1), (1, 2)), PATH.ties, Web(4, (0, 1), (1, 2), (1, 3))]
        self.assert_compares(PATH, Web(4, (2, 3), (0, 1), (1, 2)), others + EVERY)

    def test_never_changes(self):
        self.assert_not_iterable(PATH)
        for name in ("places", "ties", "degrees", "sums"):
            with self.assertRaises(AttributeError):
                setattr(PATH, name, 1)


class Tournaments(Case):
    def fails_both(self, *beaten):
        self.fails(InvalidTournament, Tournament, *beaten)
        self.fails(InvalidTournament, Tournament.of, beaten)

    def test_sums(self):
        one = Tournament((1, 2), (2,), (), (0, 1, 2))
        self.assertEqual((one.players, one.beaten), (4, ((1, 2), (2,), (), (0, 1, 2))))
        self.assertEqual((one.scores, one.sums), ((2, 1, 0, 3), ("tournament", (2, 1, 0, 3))))
        self.assertEqual(Tournament.of(((1, 2), (2,), (), (0, 1, 2))), one)

    def test_least_and_greatest(self):
        self.assertEqual((Tournament(()).players, Tournament(()).scores), (1, (0,)))
        great = Tournament.of(tuple([tuple(range(player)) for player in range(16)]))
        self.assertEqual(great.scores, tuple(range(16)))
        self.fails_both(*[tuple(range(player)) for player in range(17)])

    def test_accepts_just_the_tournaments(self):
        subsets = [tuple(chosen) for many in range(4) for chosen in combinations(range(3), many)]
        accepted = []
        for beaten in product(subsets, repeat=3):
            try:
                accepted.append(Tournament(*beaten).beaten)
            except InvalidTournament:
                pass
        self.assertEqual(sorted(accepted), sorted(all_tournaments(3)))

    def test_wrong_arguments(self):
        self.fails_both()
        for losers in NO_TUPLES + [(0,), (1, 1), (2,), (-1,), (True,), ("1",), (None,), [1], (1, 0), (FORTY,), ((1,),)]:
            self.fails_both(losers, ())
        self.fails_both((1,), (0,))
        self.fails_both((), ())
        self.fails_both((2, 1), (2,), ())

    def test_of_takes_tuples_only(self):
        for beaten in NO_TUPLES + [[()]]:
            self.fails(InvalidTournament, Tournament.of, beaten)

    def test_beats_and_with_change(self):
        one = Tournament((1, 2), (2,), (), (0, 1, 2))
        for i, j in product(range(4), repeat=2):
            self.assertIs(one.beats(i, j), j in one.beaten[i])
        self.assertEqual(one.with_change(0, 2), Tournament((1,), (2,), (0,), (0, 1, 2)))
        self.assertEqual(one.with_change(2, 0), one.with_change(0, 2))
        self.assertEqual(one.with_change(1, 3), Tournament((1, 2), (2, 3), (), (0, 2)))
        for wrong in NO_INTEGERS + [-1, 4, FORTY]:
            for call in (one.beats, one.with_change):
                self.fails_by_number(call, wrong, wrong, 0)
                self.fails_by_number(call, wrong, wrong, 4)
                self.fails_by_number(call, wrong, 0, wrong)
        self.fails(InvalidOperation, one.with_change, 3, 3)
        self.fails_by_number(one.with_change, 4, 4, 4)

    def test_opposite(self):
        for beaten in all_tournaments(4):
            one = Tournament.of(beaten)
            turned = one.opposite()
            for i, j in product(range(4), repeat=2):
                self.assertIs(turned.beats(i, j), one.beats(j, i))
        self.assertEqual(Tournament(()).opposite(), Tournament(()))

    def test_words(self):
        self.assertEqual((str(RING), str(Tournament(()))), ("tournament of 3 players", "tournament of 1 players"))
        self.assertEqual(len(RING), 3)

    def test_comparison(self):
        others = [Tournament((2,), (0,), (1,)), Tournament((1,), ()), RING.beaten]
        self.assert_compares(RING, Tournament((1,), (2,), (0,)), others + EVERY)

    def test_never_changes(self):
        self.assert_not_iterable(RING)
        for name in ("players", "beaten", "scores", "sums"):
            with self.assertRaises(AttributeError):
                setattr(RING, name, 1)


class Sums(Case):
    def test_sums(self):
        for value in (("table", 1, (0,), (0,)), ("table", 9, (THIRTY,) * 12, (0,) * 12), ("table", 3, (7,), (1, 2)),
                      ("web", (9, 0)), ("web", (THIRTY,) * 16), ("web", (0,)), ("tournament", (0,)),
                      ("tournament", (5,) * 16), ("tournament", (THIRTY,))):
            self.assertIs(is_sums(value), True)

    def test_no_sums(self):
        for value in NO_SUMS:
            self.assertIs(is_sums(value), False, value)

    def test_every_kind(self):
        self.judges_every_kind(is_sums)
        for thing in (GRID, PATH, RING):
            self.judges_every_kind(is_thing, thing.sums)

    def test_is_thing(self):
        for thing in (GRID, PATH, RING):
            self.assertIs(is_thing(thing.sums, thing), True)
            for value in EVERY + [thing.sums, thing.opposite().sums]:
                self.assertIs(is_thing(thing.sums, value), False)
        self.assertIs(is_thing(("table", 2, (2, 2), (2, 1, 1)), GRID), False)
        self.assertIs(is_thing(("table", 1, (2, 1, 1), (2, 2)), GRID), False)
        self.assertIs(is_thing(("tournament", (1, 1, 1)), RING.opposite()), True)
        self.assertIs(is_thing(("web", (1, 1, 1)), RING), False)
        self.assertIs(is_thing(("tournament", (0,)), Web(1)), False)
        self.assertIs(is_thing(("web", (0,)), Web(1)), True)

    def test_is_thing_takes_sums(self):
        for sums in NO_SUMS:
            for value in (GRID, None, []):
                self.fails(InvalidSums, is_thing, sums, value)

    def test_sums_of(self):
        for thing in (GRID, PATH, RING):
            self.assertEqual(sums_of(thing), thing.sums)
        self.assertEqual(sums_of(GRID), ("table", 1, (2, 2), (2, 1, 1)))
        for value in EVERY:
            if not isinstance(value, (Table, Web, Tournament)):
                self.fails(InvalidOperation, sums_of, value)
        self.fails(InvalidOperation, sums_of, GRID.sums)
