"""Exchanges [G.0] to [G.3]."""

from itertools import combinations, product
from random import Random

from sumsalone.base.things import Table, Tournament, Web
from sumsalone.errors import InvalidOperation
from sumsalone.roads.exchanges import (count_exchanges, distance, each_exchange, exchange_road, is_exchange,
                                       is_exchange_road, is_nearer, is_split, nearer, split)
from sumsalone.tables.making import made_table
from sumsalone.webs.rows import web_of
from sumsalone.wins.scores import tournament_of
from tests.kinds import EVERY, FORTY, NO_THINGS, Case
from tests.plain import all_things, by_sums, exchanges_of, gap_of, splits, units_between, units_of_way
from tests.some import some_tables, some_tournaments, some_webs, thing_told
from tests.test_carried import told_of

SIZES = [("table", 1, 2, 2), ("table", 1, 2, 3), ("table", 2, 2, 2), ("table", 1, 1, 3), ("table", 3, 2, 1), ("web", 1),
         ("web", 4), ("tournament", 1), ("tournament", 4)]
MORE_SIZES = SIZES + [("table", 1, 3, 3), ("table", 2, 2, 3), ("table", 3, 2, 2), ("web", 5), ("tournament", 5)]
GRID, TURNED = Table(1, (1, 1, 0), (1, 0, 1)), Table(1, (1, 0, 1), (1, 1, 0))
RING, STAIR = Tournament((1,), (2,), (0,)), Tournament((1, 2), (2,), ())
PATH, OTHER = Web(4, (0, 1), (1, 2), (2, 3)), Web(4, (0, 2), (1, 2), (1, 3))


def groups(sizes):
    """The lists of all things of these sizes with equal sums, and the things of the package that they tell."""
    for told in by_sums(all_things(*sizes)).values():
        yield told, [thing_told(one) for one in told]


def another(thing):
    """A thing with the same sums, made of them."""
    if isinstance(thing, Table):
        return made_table(thing.sums)
    return web_of(thing.degrees) if isinstance(thing, Web) else tournament_of(thing.scores)


def carried_around(thing, many, random):
    """A thing with the same sums, so many exchanges further, if it has some."""
    for _ in range(many):
        thing = random.choice(list(each_exchange(thing)) or [thing])
    return thing


def is_split_told(one, other, ways):
    """Whether all units that differ are used just once, by the units that ways go along."""
    more, fewer = units_between(one, other)
    for way in ways:
        for unit, is_more in units_of_way(one[0], way):
            units = more if is_more else fewer
            if units.get(unit, 0) == 0:
                return False
            units[unit] -= 1
    return not any(more.values()) and not any(fewer.values())


def most_exchanges(one, other, ways):
    if isinstance(one, Tournament):
        return gap_of(told_of(one), told_of(other)) - 2 * len(ways)
    return gap_of(told_of(one), told_of(other)) // 2 - len(ways)


class Distances(Case):
    def test_small_things(self):
        for sizes in SIZES:
            for told, things in groups(sizes):
                for i, j in product(range(len(told)), repeat=2):
                    self.assertEqual(distance(things[i], things[j]), gap_of(told[i], told[j]))

    def test_unlike_sums(self):
        things = [GRID, PATH, RING, STAIR, Table(2, (1, 1, 0), (1, 0, 1)), Table(1, (1, 1), (1, 1)), Web(3), Web(4),
                  Table(1, (1, 1, 0), (1, 1, 0)), Tournament((1, 2), (), (1,)), Web(1), Tournament(()), Table(1, (0,))]
        for one, other in product(things, repeat=2):
            calls = [(distance, ()), (is_nearer, (None,)), (is_split, ((),)), (split, ()), (exchange_road, ((),)),
                     (is_exchange_road, ((one, other),)), (nearer, ()), (is_split, (None,)), (is_exchange_road, (None,))]
            for call, rest in calls:
                if one != other:
                    self.fails(InvalidOperation, call, one, other, *rest)
        self.assertEqual(distance(GRID, GRID), 0)

    def test_no_things(self):
        for wrong in NO_THINGS:
            for call, rest in ((distance, ()), (nearer, ()), (split, ()), (is_nearer, (None,)), (is_split, (None,)),
                               (is_split, ((),)), (exchange_road, ((),)), (exchange_road, (None,)),
                               (is_exchange_road, (None,)), (is_exchange_road, ((GRID,),))):
                self.fails(InvalidOperation, call, wrong, GRID, *rest)
                self.fails(InvalidOperation, call, GRID, wrong, *rest)
                self.fails(InvalidOperation, call, wrong, wrong, *rest)
            for call, rest in ((count_exchanges, ()), (is_exchange, (None,)), (is_exchange, (GRID,))):
                self.fails(InvalidOperation, call, wrong, *rest)
            waiting = each_exchange(wrong)
            self.fails(InvalidOperation, next, waiting)


class Exchanges(Case):
    def test_small_things(self):
        for sizes in MORE_SIZES:
            for told, things in groups(sizes):
                for i, thing in enumerate(things):
                    every = exchanges_of(told[i])
                    found = [told_of(one) for one in each_exchange(thing)]
                    self.assertEqual(sorted(found), sorted(set(every)))
                    self.assertEqual(count_exchanges(thing), len(found))
                    for one in found:
                        self.assertEqual(gap_of(told[i], one), 3 if told[i][0] == "tournament" else 4)

    def test_joined_by_exchanges_and_by_nothing_else(self):
        for sizes in MORE_SIZES:
            for told, things in groups(sizes):
                reached = [things[0]]
                for thing in reached:
                    reached.extend(one for one in each_exchange(thing) if one not in reached)
                self.assertEqual(sorted(told_of(one) for one in reached), sorted(told))
                self.assertIs(count_exchanges(things[0]) == 0, len(things) == 1)

    def test_all_values_are_judged(self):
        for sizes in SIZES:
            every = all_things(*sizes)
            things = [thing_told(told) for told in every]
            for told, thing in zip(every, things):
                found = exchanges_of(told)
                for value, other in zip(every, things):
                    self.assertIs(is_exchange(thing, other), value in found)

    def test_greater_things(self):
        random = Random(1)
        for thing in list(some_tables(8, 6)) + list(some_webs(8, 6)) + list(some_tournaments(9, 6)):
            found = [told_of(one) for one in each_exchange(thing)]
            self.assertEqual(sorted(found), sorted(set(exchanges_of(told_of(thing)))))
            for one in random.sample(found, min(5, len(found))):
                self.assertIs(is_exchange(thing, thing_told(one)), True)
                for further in random.sample(exchanges_of(one), 1):
                    right = further in found
                    self.assertIs(is_exchange(thing, thing_told(further)), right)

    def test_all_else_is_refused(self):
        for value in EVERY + [TURNED, OTHER, RING.opposite(), STAIR, Web(5, (0, 2), (1, 2), (1, 3)), (TURNED,), [TURNED]]:
            for thing, right in ((GRID, TURNED), (PATH, OTHER), (RING, RING.opposite())):
                self.assertIs(is_exchange(thing, value), value == right)
        self.assertIs(is_exchange(Table(1, (1, 0), (0, 1)), Table(2, (0, 1), (1, 0))), False)
        self.assertIs(is_exchange(Table(2, (2, 0), (0, 2)), Table(2, (0, 2), (2, 0))), False)

    def test_great_things(self):
        checks = Table(9, *[tuple(9 * ((i + j) % 2) for j in range(12)) for i in range(12)])
        self.assertEqual(count_exchanges(checks), 36 * 36)
        self.assertEqual(len(list(each_exchange(checks))), 36 * 36)
        middle = Table(9, *[(5,) * 12] * 12)
        self.assertEqual(count_exchanges(middle), 66 * 132)
        first = [one for one, _ in zip(each_exchange(middle), range(3))]
        self.assertEqual(len(first), 3)
        self.assertEqual(count_exchanges(Web(16)), 0)
        self.assertEqual(count_exchanges(Web(16, *combinations(range(16), 2))), 0)
        self.assertEqual(count_exchanges(Web(16, *[(2 * i, 2 * i + 1) for i in range(8)])), 28 * 2)

    def test_what_is_not_true(self):
        self.assertEqual(count_exchanges(Table(2, (2, 0), (0, 0))), 0)
        self.assertEqual(count_exchanges(Table(1, (1, 1), (1, 1))), 0)
        self.assertEqual(count_exchanges(Table(1, (0, 0), (0, 0))), 0)


class Nearer(Case):
    def test_small_things(self):
        for sizes in MORE_SIZES:
            for told, things in groups(sizes):
                for i, j in product(range(min(len(told), 12)), repeat=2):
                    if i == j:
                        self.fails(InvalidOperation, nearer, things[i], things[j])
                        continue
                    side, thing = nearer(things[i], things[j])
                    start, end = (i, j) if side == "first" else (j, i)
                    self.assertIn(side, ("first", "second"))
                    self.assertIn(told_of(thing), exchanges_of(told[start]))
                    self.assertLess(gap_of(told_of(thing), told[end]), gap_of(told[i], told[j]))
                    self.assertIs(is_nearer(things[i], things[j], (side, thing)), True)

    def test_all_values_are_judged(self):
        for sizes in SIZES + [("web", 5), ("table", 1, 3, 3)]:
            for told, things in list(groups(sizes))[::3]:
                for i, j, k in product(range(min(len(told), 6)), repeat=3):
                    far = gap_of(told[i], told[j])
                    first = told[k] in exchanges_of(told[i]) and gap_of(told[k], told[j]) < far
                    second = told[k] in exchanges_of(told[j]) and gap_of(told[i], told[k]) < far
                    self.assertIs(is_nearer(things[i], things[j], ("first", things[k])), first)
                    self.assertIs(is_nearer(things[i], things[j], ("second", things[k])), second)

    def test_one_of_both_sides_alone(self):
        # An exchange nearer to the other thing need not be there for each of both (G.3).
        sides = set()
        for told, things in groups(("web", 5)):
            for i, j in combinations(range(len(told)), 2):
                far = gap_of(told[i], told[j])
                first = any(gap_of(one, told[j]) < far for one in exchanges_of(told[i]))
                second = any(gap_of(told[i], one) < far for one in exchanges_of(told[j]))
                sides.add((first, second))
        self.assertNotIn((False, False), sides)

    def test_all_else_is_refused(self):
        self.assertIs(is_nearer(GRID, TURNED, ("first", TURNED)), True)
        self.assertIs(is_nearer(GRID, TURNED, ("second", GRID)), True)
        for value in (("first", GRID), ("second", TURNED), ["first", TURNED], ("first", TURNED, 1), ("first",), TURNED,
                      ("First", TURNED), (1, TURNED), (TURNED, "first"), ("first", None), ("", TURNED), ("second", None),
                      ("first", (TURNED,)), ("first", PATH), (None, TURNED), (("first",), TURNED)):
            self.assertIs(is_nearer(GRID, TURNED, value), False)
        for side in ("Second", "third", "", None, 2, ("second",), GRID):
            self.assertIs(is_nearer(GRID, TURNED, (side, GRID)), False)
            self.assertIs(is_nearer(GRID, TURNED, (side, TURNED)), False)
        for one, other in ((GRID, TURNED), (PATH, PATH), (RING, RING.opposite()), (Web(1), Web(1))):
            self.judges_every_kind(is_nearer, one, other)
        for side in ("first", "second"):
            self.assertIs(is_nearer(GRID, GRID, (side, TURNED)), False)
            self.assertIs(is_nearer(GRID, GRID, (side, GRID)), False)

    def test_great_things(self):
        for thing in list(some_tables(20)) + list(some_webs(16, 4)) + list(some_tournaments(16, 4)):
            other = another(thing)
            if other != thing:
                self.assertIs(is_nearer(thing, other, nearer(thing, other)), True)


class Splits(Case):
    def test_small_things(self):
        for sizes in MORE_SIZES:
            for told, things in groups(sizes):
                for i, j in product(range(min(len(told), 12)), repeat=2):
                    ways = split(things[i], things[j])
                    self.assertIs(type(ways), tuple)
                    self.assertTrue(all(type(way) is tuple for way in ways))
                    self.assertTrue(is_split_told(told[i], told[j], ways))
                    self.assertIs(is_split(things[i], things[j], ways), True)
                    if i == j:
                        self.assertEqual(ways, ())

    def test_all_splits_are_judged(self):
        for sizes in MORE_SIZES:
            for told, things in groups(sizes):
                for i, j in product(range(min(len(told), 5)), repeat=2):
                    for ways in splits(told[i], told[j])[:30]:
                        self.check_judged(things[i], things[j], ways)

    def check_judged(self, one, other, ways):
        self.assertIs(is_split(one, other, ways), True)
        self.assertIs(is_split(one, other, ways[::-1]), True)
        self.assertIs(is_split(one, other, list(ways)), False)
        self.assertIs(is_split(one, other, ways + ways[:1]), not ways)
        self.assertIs(is_split(one, other, ways + ((),)), False)
        if ways:
            step = 1 if isinstance(one, Tournament) else 2
            turned = tuple(way[step:] + way[:step] for way in ways)
            self.assertIs(is_split(one, other, turned), True)
            self.assertIs(is_split(one, other, ways[1:]), False)
            self.assertIs(is_split(other, one, ways), False)
            self.assertIs(is_split(one, other, ways[:-1] + (ways[-1][:-1],)), False)
            self.assertIs(is_split(one, other, ways[:-1] + (ways[-1] + ways[-1],)), False)
            self.assertIs(is_split(one, other, ways[:-1] + (list(ways[-1]),)), False)
            odd = tuple(way[1:] + way[:1] for way in ways)
            self.assertIs(is_split(one, other, odd), is_split_told(told_of(one), told_of(other), odd))

    def test_values_that_are_judged_by_their_units(self):
        for sizes, length, most in ((("table", 1, 2, 2), 4, 2), (("web", 4), 4, 4), (("tournament", 4), 3, 4),
                                    (("tournament", 4), 4, 4)):
            for told, things in groups(sizes):
                for i, j in product(range(min(len(told), 3)), repeat=2):
                    for way in product(range(most), repeat=length):
                        right = is_split_told(told[i], told[j], (way,))
                        self.assertIs(is_split(things[i], things[j], (way,)), right)

    def test_all_else_is_refused(self):
        self.assertIs(is_split(GRID, TURNED, ((0, 1, 1, 2),)), True)
        self.assertIs(is_split(GRID, TURNED, ((1, 2, 0, 1),)), True)
        for way in ((1, 1, 0, 2), (0, 1, 1), (0, 1), (0, 1, 1, 2, 0), (0, True, 1, 2), (False, 1, 1, 2), [0, 1, 1, 2],
                    (0, 1, 1, 3), (-1, 1, 1, 2), (0, 1, 2, 2), (0, FORTY, 1, 2), ("0", 1, 1, 2), (0, 1, 1, None), (),
                    (0, (1,), 1, 2), None, 4, (0, -2, 1, 2), (0, 1, -1, -1), (0, 1, 1, 2, 0, 1, 1, 2)):
            self.assertIs(is_split(GRID, TURNED, (way,)), False)
        self.assertIs(is_split(RING, RING.opposite(), ((1, 2, 0),)), True)
        for way in ((0, 2, 1), (0, 1), (0, 1, 2, 0), (0, True, 2), [0, 1, 2], (0, 1, 2, 0, 1, 2), (3, 1, 2), (-3, 1, 2),
                    ("0", 1, 2), (0,), (0, 0, 0)):
            self.assertIs(is_split(RING, RING.opposite(), (way,)), False)
        for one, other in ((GRID, TURNED), (PATH, OTHER), (RING, RING.opposite()), (Web(1), Web(1))):
            self.judges_every_kind(is_split, one, other)
            self.assertIs(is_split(one, other, ()), one == other)
        self.assertIs(is_split(PATH, OTHER, ((0, 1, 3, 2),)), True)
        self.assertIs(is_split(PATH, OTHER, ((3, 2, 0, 1),)), True)
        self.assertIs(is_split(PATH, OTHER, ((0, 2, 3, 1),)), False)

    def test_lines_and_columns_are_told_by_their_own_indices(self):
        one = Table(1, (1, 0, 0, 0), (0, 0, 0, 1))
        other = Table(1, (0, 0, 0, 1), (1, 0, 0, 0))
        self.assertIs(is_split(one, other, ((0, 0, 1, 3),)), True)
        self.assertIs(is_split(one, other, ((1, 3, 0, 0),)), True)
        self.assertIs(is_split(one, other, ((0, 3, 1, 0),)), False)
        self.assertIs(is_split(one, other, ((0, 2, 1, 5),)), False)


class Roads(Case):
    def check(self, one, other, ways):
        found = exchange_road(one, other, ways)
        self.assertEqual((found[0], found[-1]), (one, other))
        for thing, following in zip(found, found[1:]):
            self.assertEqual(thing.sums, following.sums)
            self.assertEqual(gap_of(told_of(thing), told_of(following)), 3 if isinstance(one, Tournament) else 4)
        self.assertLessEqual(len(found) - 1, most_exchanges(one, other, ways))
        self.assertIs(is_exchange_road(one, other, found), True)

    def test_all_splits_of_small_things(self):
        for sizes in MORE_SIZES:
            for told, things in groups(sizes):
                for i, j in product(range(min(len(told), 8)), repeat=2):
                    self.check(things[i], things[j], split(things[i], things[j]))
                    for ways in splits(told[i], told[j])[:20]:
                        self.check(things[i], things[j], ways)

    def test_webs_of_six_places(self):
        random = Random(17)
        some = [thing for thing in some_webs(6, 150)]
        for thing in some:
            other = carried_around(thing, 4, random)
            for ways in splits(told_of(thing), told_of(other))[:40]:
                self.check(thing, other, ways)

    def test_one_way_through_all_pairs_of_five_places(self):
        one = Web(5, (0, 1), (1, 2), (2, 3), (3, 4), (0, 4))
        other = one.opposite()
        every = splits(told_of(one), told_of(other))
        self.assertTrue(any(len(ways) == 1 for ways in every))
        self.assertTrue(any(len(ways) == 2 for ways in every))
        for ways in every:
            self.check(one, other, ways)

    def test_two_triangles_with_a_place_in_common(self):
        one = Web(5, (0, 1), (0, 2), (3, 4))
        other = Web(5, (1, 2), (0, 3), (0, 4))
        self.check(one, other, ((0, 1, 2, 0, 3, 4),))
        self.check(other, one, ((1, 2, 0, 4, 3, 0),))

    def test_cells_that_are_crossed(self):
        one = Table(1, (1, 0, 0), (0, 1, 0), (0, 0, 1))
        other = Table(1, (0, 1, 0), (0, 0, 1), (1, 0, 0))
        self.check(one, other, ((0, 0, 2, 2, 1, 1),))
        full = Table(2, (2, 0, 2), (2, 2, 0), (0, 2, 2))
        empty = Table(2, (0, 2, 2), (2, 0, 2), (2, 2, 0))
        self.assertEqual(full.sums, empty.sums)
        for ways in splits(told_of(full), told_of(empty))[:200]:
            self.check(full, empty, ways)
        # One way that comes to each line and to each column twice.
        twice = ((0, 0, 2, 1, 1, 1, 0, 0, 2, 1, 1, 1),)
        self.assertIs(is_split(full, empty, twice), is_split_told(told_of(full), told_of(empty), twice))

    def test_greatest_things(self):
        checks = Table(9, *[tuple(9 * ((i + j) % 2) for j in range(12)) for i in range(12)])
        blocks = Table(9, *[tuple(9 * int((i < 6) == (j < 6)) for j in range(12)) for i in range(12)])
        for one in (checks, blocks):
            other = one.opposite()
            ways = split(one, other)
            self.check(one, other, ways)
            # All ways from the first line made one way, that comes to it again and again.
            joined = tuple(index for way in ways if way[0] == 0 for index in way)
            self.check(one, other, (joined,) + tuple(way for way in ways if way[0] != 0))
        for thing in list(some_tables(12)) + list(some_webs(16, 8)) + list(some_tournaments(16, 8)):
            other = another(thing)
            self.check(thing, other, split(thing, other))
            self.check(other, thing, split(other, thing))
        regular = Tournament(*[tuple(sorted((i + k) % 15 for k in range(1, 8))) for i in range(15)])
        self.check(regular, regular.opposite(), split(regular, regular.opposite()))

    def test_all_walks_are_judged(self):
        for told, things in groups(("web", 5)):
            start = things[0]
            for first in list(each_exchange(start))[:4]:
                for second in list(each_exchange(first))[:6]:
                    walk = (start, first, second)
                    self.assertIs(is_exchange_road(start, second, walk), True)
                    self.assertIs(is_exchange_road(start, first, walk), first == second)
                    self.assertIs(is_exchange_road(second, start, walk[::-1]), True)
                    self.assertIs(is_exchange_road(start, second, (start, second)), is_exchange(start, second))
                    self.assertIs(is_exchange_road(start, second, walk + (second,)), False)
                    self.assertIs(is_exchange_road(start, second, walk + (first, second)), True)

    def test_all_else_is_refused(self):
        self.assertIs(is_exchange_road(GRID, TURNED, (GRID, TURNED)), True)
        self.assertIs(is_exchange_road(GRID, GRID, (GRID,)), True)
        self.assertIs(is_exchange_road(GRID, GRID, (GRID, TURNED, GRID)), True)
        for value in ((), (GRID,), (TURNED,), (TURNED, GRID), [GRID, TURNED], (GRID, None, TURNED), (None, TURNED),
                      (GRID, TURNED, None), (GRID, GRID, TURNED), (GRID, PATH, TURNED), None, GRID, ((GRID, TURNED),),
                      (GRID, TURNED, GRID)):
            self.assertIs(is_exchange_road(GRID, TURNED, value), False)
        for one, other in ((GRID, TURNED), (PATH, PATH), (RING, RING.opposite()), (Web(1), Web(1))):
            self.judges_every_kind(is_exchange_road, one, other)
        self.assertIs(is_exchange_road(GRID, GRID, ()), False)

    def test_no_splits(self):
        for wrong in EVERY:
            if wrong != ():
                self.fails(InvalidOperation, exchange_road, GRID, GRID, wrong)
            self.fails(InvalidOperation, exchange_road, GRID, TURNED, wrong)
        for wrong in (((0, 2, 1, 1),), ((0, 1, 1, 2), (0, 1, 1, 2)), [(0, 1, 1, 2)], ([0, 1, 1, 2],)):
            self.fails(InvalidOperation, exchange_road, GRID, TURNED, wrong)
        self.assertEqual(exchange_road(GRID, TURNED, ((0, 1, 1, 2),)), (GRID, TURNED))
        self.assertEqual(exchange_road(GRID, GRID, ()), (GRID,))
