"""Even steps [E.1] to [E.4]."""

from itertools import permutations
from random import Random

from sumsalone.across.even import back_step, even_step, steps_between
from sumsalone.base.things import Table, Tournament, Web
from sumsalone.errors import InvalidNumber, InvalidOperation
from sumsalone.fill.insertion import fillings_of
from tests.kinds import FORTY, NO_INTEGERS, NO_THINGS, Case
from tests.plain import all_tables, all_things, by_sums, row_of_told, with_cells, with_results, with_ties
from tests.some import some_tables, some_tournaments, some_webs, thing_told
from tests.test_bridges import NO_BOOLEANS
from tests.test_carried import told_of

SIZES = [("table", 1, 2, 2), ("table", 2, 2, 2), ("table", 3, 2, 2), ("table", 1, 2, 3), ("table", 2, 2, 3),
         ("table", 3, 2, 1), ("table", 1, 3, 3), ("table", 2, 3, 1), ("table", 2, 1, 3), ("web", 2), ("web", 3), ("web", 4),
         ("web", 5), ("tournament", 2), ("tournament", 3), ("tournament", 4), ("tournament", 5)]


def units_told(told, i, j, flat):
    """The row of units between two indices, as words: pairs of their owner and of their column, place or player."""
    if told[0] == "table":
        _, cap, lines = told
        rows = list(zip(*lines)) if flat else list(lines)
        order = list(range(len(rows[0])))
        units = []
        for k in order[::-1] if flat else order:
            a, b = rows[i][k], rows[j][k]
            least, greatest = max(0, a + b - cap), min(a + b, cap)
            units += ["i", k] * (a - least) + ["j", k] * (greatest - a)
        return list(zip(units[::2], units[1::2]))
    many = told[1] if told[0] == "web" else len(told[1])
    units = []
    if told[0] == "tournament":
        units.append(("i", j) if j in told[1][i] else ("j", i))
    for k in range(many):
        if k not in (i, j):
            with_i = tuple(sorted((i, k))) in told[2] if told[0] == "web" else k in told[1][i]
            with_j = tuple(sorted((j, k))) in told[2] if told[0] == "web" else k in told[1][j]
            if with_i != with_j:
                units.append(("i" if with_i else "j", k))
    return units


def not_paired(units):
    """The units that are left when pairs of a unit of j and the next one of i are taken away as long as there are any."""
    left = list(units)
    while True:
        at = [k for k in range(len(left) - 1) if left[k][0] == "j" and left[k + 1][0] == "i"]
        if not at:
            return left
        del left[at[0]:at[0] + 2]


def with_unit(told, giver, taker, spot, flat):
    """The thing in which the giver has given its unit at this spot to the taker."""
    if told[0] == "table":
        changes = {(spot, giver): -1, (spot, taker): 1} if flat else {(giver, spot): -1, (taker, spot): 1}
        return told[:2] + (with_cells(told[2], changes),)
    if told[0] == "web":
        return told[:2] + (with_ties(told[2], [(giver, spot)], [(taker, spot)]),)
    pairs = [(giver, taker)] if spot in (giver, taker) else [(giver, spot), (spot, taker)]
    return ("tournament", with_results(told[1], pairs))


def steps_told(told, i, j, flat):
    """The things behind a step and behind one taken back, or None, and the numbers of units that are not paired."""
    left = not_paired(units_told(told, i, j, flat))
    givers = [spot for owner, spot in left if owner == "i"]
    takers = [spot for owner, spot in left if owner == "j"]
    ahead = with_unit(told, i, j, givers[-1], flat) if givers else None
    behind = with_unit(told, j, i, takers[0], flat) if takers else None
    return ahead, behind, (len(givers), len(takers))


def ways(told):
    """All pairs of indices, and whether they are of columns."""
    found = [(i, j, False) for i, j in permutations(range(len(row_of_told(told))), 2)]
    if told[0] == "table":
        found += [(i, j, True) for i, j in permutations(range(len(told[2][0])), 2)]
    return found


class Steps(Case):
    def check(self, told, thing):
        for i, j, flat in ways(told):
            ahead, behind, counts = steps_told(told, i, j, flat)
            self.assertEqual(steps_between(thing, i, j, columns=flat), counts)
            for call, expected in ((even_step, ahead), (back_step, behind)):
                if expected is None:
                    self.fails(InvalidOperation, call, thing, i, j, columns=flat)
                else:
                    self.assertEqual(told_of(call(thing, i, j, columns=flat)), expected)

    def test_against_the_words(self):
        for sizes in SIZES:
            for told in all_things(*sizes):
                self.check(told, thing_told(told))

    def test_all_sizes(self):
        for things in (some_tables(12), some_webs(9, 8), some_webs(16, 3), some_tournaments(9, 8), some_tournaments(16, 3)):
            for thing in things:
                self.check(told_of(thing), thing)

    def test_sums_and_there_and_back(self):
        random = Random(4)
        for things in (some_tables(60), some_webs(16, 20), some_tournaments(16, 20)):
            for thing in things:
                told = told_of(thing)
                if len(ways(told)) == 0:
                    continue
                for i, j, flat in random.sample(ways(told), min(8, len(ways(told)))):
                    row = thing.column_sums if flat else row_of_told(told)
                    here, there = steps_between(thing, i, j, columns=flat)
                    self.assertEqual(here - there, row[i] - row[j])
                    if here:
                        step = even_step(thing, i, j, columns=flat)
                        changed = list(row)
                        changed[i] -= 1
                        changed[j] += 1
                        self.assertEqual(step.column_sums if flat else row_of_told(told_of(step)), tuple(changed))
                        if flat:
                            self.assertEqual(step.line_sums, thing.line_sums)
                        elif isinstance(thing, Table):
                            self.assertEqual(step.column_sums, thing.column_sums)
                        self.assertEqual(back_step(step, i, j, columns=flat), thing)
                        self.assertEqual(steps_between(step, i, j, columns=flat), (here - 1, there + 1))
                    if there:
                        step = back_step(thing, i, j, columns=flat)
                        self.assertEqual(even_step(step, i, j, columns=flat), thing)

    def test_different_things_have_different_steps(self):
        for sizes in SIZES:
            for sums, things in by_sums(all_things(*sizes)).items():
                for i, j, flat in ways(things[0]):
                    behind = [even_step(thing_told(told), i, j, columns=flat) for told in things
                              if steps_between(thing_told(told), i, j, columns=flat)[0]]
                    self.assertTrue(all(one not in behind[:at] for at, one in enumerate(behind)))
                    row = (sums[3] if flat else sums[2]) if sums[0] == "table" else sums[1]
                    if row[i] > row[j]:
                        self.assertEqual(len(behind), len(things))

    def test_steps_are_done_as_long_as_there_are_any(self):
        for things in (some_tables(15, most=6), some_webs(7, 8), some_tournaments(7, 8)):
            for thing in things:
                for i, j, flat in ways(told_of(thing)):
                    here, there = steps_between(thing, i, j, columns=flat)
                    for call, many in ((even_step, here), (back_step, there)):
                        one = thing
                        for _ in range(many):
                            one = call(one, i, j, columns=flat)
                        self.fails(InvalidOperation, call, one, i, j, columns=flat)
                    self.assertEqual(steps_between(thing, j, i, columns=flat)[0]
                                     - steps_between(thing, j, i, columns=flat)[1], there - here)

    def test_fillings_of_neighbours(self):
        for lines, columns in ((2, 2), (3, 2), (2, 3), (3, 3), (2, 4)):
            for cells in all_tables(1, lines, columns):
                table = Table.of(1, cells)
                for at in range(lines - 1):
                    for call, count in ((even_step, 0), (back_step, 1)):
                        if steps_between(table, at, at + 1)[count]:
                            self.assertEqual(fillings_of(call(table, at, at + 1))[0], fillings_of(table)[0])
                for at in range(columns - 1):
                    for call, count in ((even_step, 0), (back_step, 1)):
                        if steps_between(table, at, at + 1, columns=True)[count]:
                            self.assertEqual(fillings_of(call(table, at, at + 1, columns=True))[1], fillings_of(table)[1])

    def test_order_of_both_kinds_does_not_matter(self):
        for cells in all_tables(1, 3, 3):
            table = Table.of(1, cells)
            for i in range(2):
                for j in range(2):
                    if steps_between(table, i, i + 1)[0] and steps_between(table, j, j + 1, columns=True)[0]:
                        self.assertEqual(even_step(even_step(table, i, i + 1), j, j + 1, columns=True),
                                         even_step(even_step(table, j, j + 1, columns=True), i, i + 1))


class Arguments(Case):
    def test_no_thing(self):
        for wrong in NO_THINGS:
            for call in (even_step, back_step, steps_between):
                self.fails(InvalidOperation, call, wrong, 0, 1)
                self.fails(InvalidOperation, call, wrong, None, None, columns=None)

    def test_no_indices(self):
        table, web, ring = Table(1, (1, 1, 0), (0, 1, 1)), Web(3, (0, 1)), Tournament((1,), (2,), (0,))
        for call in (even_step, back_step, steps_between):
            for wrong in NO_INTEGERS + [-1, 3, FORTY]:
                for thing in (web, ring):
                    self.fails_by_number(call, wrong, thing, wrong, 0)
                    self.fails_by_number(call, wrong, thing, wrong, 3, columns=None)
                    self.fails_by_number(call, wrong, thing, 0, wrong, columns=True)
                self.fails_by_number(call, wrong, table, wrong, 9, columns=True)
                self.fails_by_number(call, wrong, table, 2, wrong, columns=True)
            # Only with True it is the columns that are asked for.
            for columns in (False, 1, None, "True"):
                self.fails_by_number(call, 2, table, 2, 0, columns=columns)
                self.fails_by_number(call, 2, table, 0, 2, columns=columns)
            self.fails_by_number(call, 2, table, 2, 0)
        self.assertEqual(steps_between(table, 2, 0, columns=True), (1, 1))

    def test_columns_that_are_no_boolean(self):
        for call in (even_step, back_step, steps_between):
            for thing in (Table(1, (1, 0), (0, 1)), Web(3, (0, 1)), Tournament((1,), ())):
                for wrong in NO_BOOLEANS + ([] if isinstance(thing, Table) else [True]):
                    self.fails(InvalidOperation, call, thing, 0, 1, columns=wrong)
                    self.fails_by_number(call, 5, thing, 5, 1, columns=wrong)

    def test_equal_indices_and_no_units(self):
        for call in (even_step, back_step, steps_between):
            for thing in (Table(1, (1, 0), (0, 1)), Web(3, (0, 1)), Tournament((1,), ())):
                self.fails(InvalidOperation, call, thing, 1, 1)
            self.fails(InvalidOperation, call, Table(1, (1, 0)), 1, 1, columns=True)
            self.fails(InvalidOperation, call, Web(1), 0, 0)
        self.fails(InvalidOperation, even_step, Web(2, (0, 1)), 0, 1)
        self.fails(InvalidOperation, back_step, Web(2, (0, 1)), 0, 1)
        self.assertEqual(steps_between(Web(2, (0, 1)), 0, 1), (0, 0))
        self.fails(InvalidOperation, even_step, Table(1, (0, 1), (1, 0)), 0, 1)
        self.fails(InvalidOperation, back_step, Table(1, (0, 1), (1, 0)), 0, 1)
        self.first_decides(even_step, [(Web(3), None, InvalidOperation), (0, 3, InvalidNumber), (1, -1, InvalidNumber)],
                           (Web(3), 1, 1))

    def test_results(self):
        self.assertEqual(even_step(Tournament((1,), ()), 0, 1), Tournament((), (0,)))
        self.assertEqual(back_step(Tournament((1,), ()), 1, 0), Tournament((), (0,)))
        self.fails(InvalidOperation, even_step, Tournament((1,), ()), 1, 0)
        self.assertEqual(even_step(Web(3, (0, 2)), 0, 1), Web(3, (1, 2)))
        self.assertEqual(even_step(Table(3, (3, 2), (0, 1)), 0, 1), Table(3, (3, 1), (0, 2)))
