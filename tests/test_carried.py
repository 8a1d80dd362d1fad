"""Things carried along by moves [C.0], [C.1]."""

from itertools import permutations, product
from random import Random

from sumsalone.base.things import Table, Tournament, Web
from sumsalone.errors import InvalidNumber, InvalidOperation, InvalidSums
from sumsalone.roads.carried import (carried, count_moves, is_carrying, is_highest, is_move, is_raising, moved, raised,
                                     row_of)
from tests.kinds import EVERY, FORTY, NO_INTEGERS, NO_THINGS, NO_TUPLES, THIRTY, Case
from tests.plain import (all_things, all_tournaments, all_webs, arranged_alike, moves_down, moves_of, row_of_told,
                         rows_up_to, sums_of_told, under, words_of)
from tests.some import some_tables, some_tournaments, some_webs, thing_told

SIZES = [("table", 1, 2, 2), ("table", 1, 3, 2), ("table", 2, 2, 2), ("table", 3, 2, 1), ("table", 1, 1, 2),
         ("table", 2, 3, 1), ("table", 3, 3, 1), ("web", 1), ("web", 3), ("web", 4), ("tournament", 1),
         ("tournament", 3), ("tournament", 4)]
MORE_SIZES = SIZES + [("table", 1, 2, 4), ("table", 1, 3, 3), ("table", 3, 2, 2), ("table", 2, 3, 2), ("web", 5),
                      ("tournament", 5)]
STAIR, RING = Tournament((1, 2), (2,), ()), Tournament((1,), (2,), (0,))
GREAT = [Table(9, *[(9, 0) * 6] * 6, *[(0, 9) * 6] * 6),
         Table(9, *[tuple((i * j) % 10 for j in range(12)) for i in range(12)]),
         Web(16, *[(j, i) for i in range(16) for j in range(i) if (i + j) % 3]),
         Web(16, *[(i, i + 8) for i in range(8)]),
         Tournament(*[tuple(sorted((i + k) % 15 for k in range(1, 8))) for i in range(15)])]


def indices_of(told):
    return permutations(range(len(row_of_told(told))), 2)


def ways_down(told, most):
    """All ways down of at most so many moves from a thing."""
    ways = [(told,)]
    for way in ways:
        if len(way) <= most:
            ways.extend(way + (lower,) for lower in moves_down(way[-1]))
    return ways


def things_told(way):
    return tuple(thing_told(told) for told in way)


def goes_down(things, told_moves):
    return all(lower in told_moves(upper) for upper, lower in zip(things, things[1:]))


def told_of(thing):
    if isinstance(thing, Table):
        return ("table", thing.cap, thing.lines)
    return ("web", thing.places, thing.ties) if isinstance(thing, Web) else ("tournament", thing.beaten)


class Rows(Case):
    def test_row_of(self):
        for sizes in SIZES:
            for told in all_things(*sizes):
                self.assertEqual(row_of(thing_told(told)), row_of_told(told))
        self.assertEqual(row_of(Table(2, (2, 1, 0), (0, 0, 1))), (3, 1))

    def test_no_thing(self):
        for wrong in NO_THINGS:
            self.fails(InvalidOperation, row_of, wrong)
            for call in (count_moves, moved):
                self.fails(InvalidOperation, call, wrong, 0, 1)
                self.fails(InvalidOperation, call, wrong, None, None)
            self.fails(InvalidOperation, is_move, wrong, 0, 1, RING)
            self.fails(InvalidOperation, carried, wrong, (0,))
            self.fails(InvalidOperation, carried, wrong, None)
            self.fails(InvalidOperation, is_carrying, wrong, (0,), (RING,))
            self.fails(InvalidOperation, is_highest, wrong)
            self.fails(InvalidOperation, raised, wrong)
            self.fails(InvalidOperation, is_raising, wrong, (wrong,))
            self.fails(InvalidOperation, is_raising, wrong, None)


class Moves(Case):
    def test_all_moves_of_small_things(self):
        for sizes in MORE_SIZES:
            for told in all_things(*sizes):
                thing, row = thing_told(told), row_of_told(told)
                for i, j in indices_of(told):
                    found = moves_of(told, i, j)
                    self.assertEqual(count_moves(thing, i, j), len(found))
                    if row[i] > row[j]:
                        self.assertGreater(len(found), 0)
                    if sizes[0] != "table" or sizes[1] == 1:
                        self.assertEqual(len(found) - len(moves_of(told, j, i)), row[i] - row[j])
                    if found:
                        self.assertIn(told_of(moved(thing, i, j)), found)
                        self.assertIs(is_move(thing, i, j, moved(thing, i, j)), True)
                    else:
                        self.fails(InvalidOperation, moved, thing, i, j)

    def test_all_values_are_judged(self):
        for sizes in SIZES:
            every = all_things(*sizes)
            things = {told: thing_told(told) for told in every}
            for told in every:
                for i, j in indices_of(told):
                    found = moves_of(told, i, j)
                    for value in every:
                        self.assertIs(is_move(things[told], i, j, things[value]), value in found)

    def test_greater_things_are_judged(self):
        random = Random(12)
        for thing in list(some_tables(20)) + list(some_webs(16, 10)) + list(some_tournaments(16, 10)):
            told = told_of(thing)
            indices = list(indices_of(told))
            for i, j in random.sample(indices, min(6, len(indices))):
                found = moves_of(told, i, j)
                self.assertEqual(count_moves(thing, i, j), len(found))
                for value in found:
                    self.assertIs(is_move(thing, i, j, thing_told(value)), True)
                    self.assertIs(is_move(thing, j, i, thing_told(value)), False)
                    for other in random.sample(moves_of(value, j, i), 1):
                        self.assertIs(is_move(thing, i, j, thing_told(other)), False)

    def test_things_of_other_kinds_and_sizes(self):
        self.assertIs(is_move(Table(1, (1,), (0,)), 0, 1, Table(1, (0,), (1,))), True)
        for value in (Table(2, (0,), (1,)), Table(1, (0,), (1,), (0,)), Table(1, (0, 0), (1, 0)), Table(1, (1,), (0,)),
                      Web(2), Tournament((1,), ()), Table(1, (0, 1))):
            self.assertIs(is_move(Table(1, (1,), (0,)), 0, 1, value), False)
        self.assertIs(is_move(Web(3, (0, 1)), 0, 2, Web(3, (1, 2))), True)
        self.assertIs(is_move(Web(3, (0, 1)), 0, 2, Web(4, (1, 2))), False)
        # Equal rows, but more than one unit has gone.
        self.assertIs(is_move(Table(2, (2, 0), (0, 1)), 0, 1, Table(2, (0, 1), (2, 0))), False)
        self.assertIs(is_move(Table(1, (1, 1, 0), (0, 0, 1)), 0, 1, Table(1, (0, 0, 1), (1, 1, 0))), False)
        for thing in (Table(1, (1,), (0,)), Web(3, (0, 1)), STAIR):
            self.judges_every_kind(is_move, thing, 0, 1)

    def test_wrong_indices(self):
        for thing, most in ((Table(1, (1, 1, 1), (0, 0, 0)), 1), (Web(3, (0, 1)), 2), (STAIR, 2), (Web(1), 0)):
            for call, rest in ((count_moves, ()), (moved, ()), (is_move, (None,)), (is_move, (thing,))):
                for wrong in NO_INTEGERS + [-1, most + 1, FORTY, -FORTY]:
                    self.fails_by_number(call, wrong, thing, wrong, 0, *rest)
                    self.fails_by_number(call, wrong, thing, 0, wrong, *rest)
                    self.fails_by_number(call, wrong, thing, wrong, wrong, *rest)
                for index in range(most + 1):
                    self.fails(InvalidOperation, call, thing, index, index, *rest)
        for call in (count_moves, moved):
            self.first_decides(call, [(STAIR, 3, InvalidOperation), (0, 3, InvalidNumber), (1, -1, InvalidNumber)],
                               later=(STAIR, 1, 1))
        self.fails(InvalidOperation, moved, STAIR, 2, 0)
        self.fails(InvalidOperation, moved, Web(2), 0, 1)


class Carried(Case):
    def test_all_rows_of_small_things(self):
        for sizes in MORE_SIZES:
            every = all_things(*sizes)
            rows = {row_of_told(told) for told in every}
            for told in every[::1 if len(every) < 300 else 7]:
                thing, own = thing_told(told), row_of_told(told)
                for row in rows:
                    if under(row, own) and arranged_alike(own, row):
                        found = carried(thing, row)
                        self.assertEqual((found[0], row_of(found[-1])), (thing, row))
                        self.assertTrue(goes_down([told_of(one) for one in found], moves_down))
                        self.assertEqual(2 * (len(found) - 1), sum(abs(a - b) for a, b in zip(own, row)))
                        self.assertIs(is_carrying(thing, row, found), True)
                    else:
                        self.fails(InvalidOperation, carried, thing, row)

    def test_all_ways_down_are_judged(self):
        for sizes in SIZES:
            for told in all_things(*sizes):
                ways = ways_down(told, 3)
                ends = {row_of_told(way[-1]) for way in ways}
                for way in ways[:40]:
                    for row in ends:
                        right = row == row_of_told(way[-1])
                        self.assertIs(is_carrying(thing_told(told), row, things_told(way)), right)
                    self.assertIs(is_carrying(thing_told(told), row_of_told(way[-1]), list(things_told(way))), False)

    def test_longer_ways_than_there_need_be(self):
        steps = (Table(4, (4,), (0,), (0,)), Table(4, (3,), (1,), (0,)), Table(4, (2,), (2,), (0,)),
                 Table(4, (2,), (1,), (1,)))
        self.assertIs(is_carrying(steps[0], (2, 1, 1), steps), True)
        self.assertEqual(len(carried(steps[0], (2, 1, 1))), 3)
        self.assertIs(is_carrying(steps[0], (2, 1, 1), (steps[0], steps[1], Table(4, (2,), (1,), (1,)))), True)
        self.assertIs(is_carrying(steps[0], (2, 1, 1), (steps[0], steps[2], steps[3])), False)
        self.assertIs(is_carrying(steps[0], (2, 1, 1), steps[1:]), False)
        self.assertIs(is_carrying(steps[0], (2, 2, 0), steps[:3]), True)
        self.assertIs(is_carrying(steps[0], (2, 2, 0), steps[:3] + (Table(4, (1,), (2,), (1,)),)), False)

    def test_moves_have_to_lead_down(self):
        upper, lower = Table(1, (1, 1), (0, 0)), Table(1, (0, 1), (1, 0))
        self.assertIs(is_carrying(upper, (1, 1), (upper, lower)), True)
        self.assertIs(is_carrying(lower, (2, 0), (lower, upper)), False)
        level, turned = Table(1, (1, 0), (0, 0)), Table(1, (0, 0), (1, 0))
        self.assertIs(is_carrying(level, (0, 1), (level, turned)), False)
        self.assertIs(is_move(level, 0, 1, turned), True)
        self.assertIs(is_carrying(upper, (1, 1), (upper, lower, lower)), False)
        self.assertIs(is_carrying(upper, (1, 1), (upper, upper, lower)), False)
        self.assertIs(is_carrying(upper, (1, 1), (upper, lower, upper, lower)), False)

    def test_all_else_is_refused(self):
        for value in ((), [STAIR], (STAIR, None), (None, STAIR), (None,), (STAIR, RING, None), (STAIR, (RING,)), STAIR,
                      (RING,), (Web(3),), (STAIR, Web(3, (0, 1), (0, 2), (1, 2))), {0: STAIR}, None):
            self.assertIs(is_carrying(STAIR, (2, 1, 0), value), False)
            self.assertIs(is_carrying(STAIR, (1, 1, 1), value), False)
        self.assertIs(is_carrying(STAIR, (2, 1, 0), (STAIR,)), True)
        self.assertIs(is_carrying(STAIR, (1, 1, 1), (STAIR, RING)), True)
        self.assertIs(is_carrying(STAIR, (1, 1, 1), (STAIR, RING.opposite())), True)
        self.assertIs(is_carrying(STAIR, (0, 1, 2), (STAIR,)), False)
        self.assertIs(is_carrying(STAIR, (FORTY, 1, 2), (STAIR,)), False)
        for thing, row in ((STAIR, (1, 1, 1)), (Web(1), (0,)), (Table(1, (0, 1)), (1,)), (Table(1, (0, 1)), (FORTY,))):
            self.judges_every_kind(is_carrying, thing, row)
            right = [value for value in EVERY if is_carrying(thing, row, value)]
            self.assertEqual(right, [])

    def test_wrong_rows(self):
        wrongs = NO_TUPLES + [(), (1, 1), (1, 1, 1, 0), (1, 1, True), (1, 1, -1), (1, 1, None), (1, 1, "1"),
                              ((1,), 1, 1), (0, 3, False), (-FORTY, 1, 2), [1, 1, 1], (1, [1], 1)]
        for wrong in wrongs:
            self.fails(InvalidSums, carried, STAIR, wrong)
            for value in (None, (STAIR,)):
                self.fails(InvalidSums, is_carrying, STAIR, wrong, value)
        for row in ((FORTY, 1, 2), (THIRTY + 1, 0, 0), (0, 1, 2), (3, 0, 0), (2, 0, 1), (1, 1, 0), (0, 0, 0), (2, 2, 1)):
            self.fails(InvalidOperation, carried, STAIR, row)
        self.first_decides(carried, [(STAIR, None, InvalidOperation), ((1, 1, 1), (1, 1), InvalidSums)],
                           later=(STAIR, (0, 1, 2)))

    def test_great_things(self):
        for thing in GREAT:
            top = raised(thing)[-1]
            row = row_of(top)
            mean, left = divmod(sum(row), len(row))
            places = sorted(range(len(row)), key=lambda place: (-row[place], place))
            even = {place: mean + (at < left) for at, place in enumerate(places)}
            lower = tuple(even[place] for place in range(len(row)))
            found = carried(top, lower)
            self.assertEqual(2 * (len(found) - 1), sum(abs(a - b) for a, b in zip(row, lower)))
            self.assertIs(is_carrying(top, lower, found), True)


class Raised(Case):
    def test_highest_things_by_what_leads_down_to_them(self):
        for sizes in MORE_SIZES:
            every = all_things(*sizes)
            lower = {one for told in every for one in moves_down(told)}
            for told in every:
                thing = thing_told(told)
                self.assertIs(is_highest(thing), told not in lower)
                found = raised(thing)
                self.assertEqual(found[0], thing)
                self.assertTrue(goes_down([told_of(one) for one in found[::-1]], moves_down))
                self.assertNotIn(told_of(found[-1]), lower)
                self.assertIs(is_raising(thing, found), True)

    def test_highest_things_as_they_are_told(self):
        for places in range(1, 6):
            for ties in all_webs(places):
                self.assertIs(is_highest(Web(places, *ties)), bool(words_of(places, ties)))
        for many in range(1, 5):
            for beaten in all_tournaments(many):
                self.assertIs(is_highest(Tournament(*beaten)), sorted(map(len, beaten)) == list(range(many)))
        for sizes in (("table", 2, 2, 2), ("table", 1, 3, 3), ("table", 3, 2, 2)):
            for told in all_things(*sizes):
                _, cap, lines, columns = sums_of_told(told)
                greatest = [sum(min(cap, max(0, c - cap * i)) for c in columns) for i in range(len(lines))]
                self.assertIs(is_highest(thing_told(told)), sorted(lines, reverse=True) == greatest)

    def test_all_ways_up_are_judged(self):
        for sizes in SIZES:
            every = all_things(*sizes)
            lower = {one for told in every for one in moves_down(told)}
            for told in every[::5]:
                for way in ways_down(told, 3)[:60]:
                    things = things_told(way)
                    self.assertIs(is_raising(things[-1], things[::-1]), told not in lower)
                    self.assertIs(is_raising(things[0], things), len(way) == 1 and told not in lower)

    def test_all_else_is_refused(self):
        self.assertIs(is_raising(RING, (RING, STAIR)), True)
        self.assertIs(is_raising(STAIR, (STAIR,)), True)
        for value in ((), (RING,), [RING, STAIR], (RING, RING.opposite(), STAIR), (STAIR,), (STAIR, RING), (RING, None),
                      (None, STAIR), None, RING, (RING, STAIR, STAIR), (RING, Web(3)), (RING, (STAIR,))):
            self.assertIs(is_raising(RING, value), False)
        for thing in (RING, STAIR, Web(1), Table(1, (0,)), Table(2, (1, 0), (1, 1))):
            self.judges_every_kind(is_raising, thing)
        self.assertEqual([value for value in EVERY if is_raising(STAIR, value)], [])

    def test_great_things(self):
        for thing in GREAT + list(some_tables(6)) + list(some_webs(16, 4)) + list(some_tournaments(16, 4)):
            found = raised(thing)
            self.assertEqual(found[0], thing)
            self.assertIs(is_highest(found[-1]), True)
            self.assertIs(is_raising(thing, found), True)
            for upper, lower in zip(found[1:], found):
                rows = list(zip(row_of(upper), row_of(lower)))
                self.assertEqual(sorted(a - b for a, b in rows if a != b), [-1, 1])
                self.assertGreaterEqual(max(a for a, b in rows if a > b), min(a for a, b in rows if a < b) + 2)

    def test_rows_of_no_thing_are_not_come_to(self):
        for row in rows_up_to(3, 3):
            right = under(row, (2, 1, 0)) and arranged_alike((2, 1, 0), row)
            if right:
                self.assertEqual(row_of(carried(STAIR, row)[-1]), row)
            else:
                self.fails(InvalidOperation, carried, STAIR, row)

    def test_every_kind_of_pairs(self):
        for value in product((STAIR, RING, None, Web(3)), repeat=2):
            self.assertIs(is_raising(RING, value), value == (RING, STAIR))
