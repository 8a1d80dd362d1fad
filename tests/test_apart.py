"""Units apart [8.4] to [8.6]."""

from itertools import combinations, product
from random import Random

from sumsalone.base.things import Table, Tournament, Web
from sumsalone.both.apart import apart_paper, first_cover, is_apart_paper, lessened, most_apart
from sumsalone.errors import InvalidNumber, InvalidOperation, InvalidSums
from tests.kinds import EVERY, FORTY, NO_INTEGERS, NO_SUMS, THIRTY, Case
from tests.plain import all_things, bars_of, by_sums, number_at, places_of, rows_up_to
from tests.some import some_tables, some_webs, thing_told
from tests.test_carried import told_of

SIZES = [("table", 1, 1, 1), ("table", 1, 2, 2), ("table", 2, 2, 1), ("table", 1, 2, 3), ("table", 1, 3, 3),
         ("table", 2, 2, 2), ("table", 3, 2, 2), ("table", 2, 2, 3), ("table", 1, 2, 4), ("table", 3, 1, 2), ("web", 1),
         ("web", 2), ("web", 3), ("web", 4), ("web", 5)]
NO_BOTH_SUMS = NO_SUMS + [("tournament", (1, 0)), ("tournament", (0,)), ("tournament", (1, 1))]
CROSS = ("table", 1, (3, 1, 1), (3, 1, 1))
NOT_POSSIBLE = [("web", (1,)), ("web", (3, 1)), ("table", 1, (1,), (2,)), ("table", 1, (3, 1), (2, 2)),
                ("web", (THIRTY,) * 16), ("table", 9, (THIRTY,), (THIRTY,)), ("web", (3, 3, 1, 1))]


def ends_of(kind, place):
    return [("first", place[0]), ("second", place[1])] if kind == "table" else list(place)


def are_apart(kind, places):
    ends = [end for place in places for end in ends_of(kind, place)]
    return len(ends) == len(set(ends))


def full_places(told, sums):
    return [place for place in places_of(sums) if number_at(told, place) > 0]


def most_in(told, sums):
    """The most units apart in a thing, by trying all sets of places with units."""
    full = full_places(told, sums)
    most = 0
    while any(are_apart(told[0], some) for some in combinations(full, most + 1)):
        most += 1
    return most


def less_by(sums, many):
    """The lessened sums, taking the first greatest entry each time."""
    rows = []
    for row in sums[2:] if sums[0] == "table" else sums[1:]:
        left = list(row)
        taken = set()
        for _ in range(many if sums[0] == "table" else 2 * many):
            others = [(entry, -index) for index, entry in enumerate(row) if index not in taken]
            if not others or max(others)[0] == 0:
                return None
            taken.add(-max(others)[1])
            left[-max(others)[1]] -= 1
        rows.append(tuple(left))
    return (sums[:2] if sums[0] == "table" else sums[:1]) + tuple(rows)


def all_sums(sizes, most):
    if sizes[0] == "web":
        return [("web", row) for row in rows_up_to(sizes[1], most)]
    return [("table", sizes[1]) + pair for pair in product(rows_up_to(sizes[2], most), rows_up_to(sizes[3], most))]


def cover_bounds(lines, columns):
    lines, columns = sorted(lines, reverse=True), sorted(columns, reverse=True)
    return {(e, f): e + f + e * f + sum(lines[e:]) - sum(columns[:f])
            for e in range(len(lines) + 1) for f in range(len(columns) + 1)}


class Lessened(Case):
    def test_small_sums(self):
        for sizes in (("table", 1, 2, 2), ("table", 2, 1, 3), ("web", 1), ("web", 3), ("web", 4)):
            for sums in all_sums(sizes, 3):
                for many in range(5):
                    self.assertEqual(lessened(sums, many), less_by(sums, many))

    def test_equal_entries_and_entries_that_are_zero(self):
        self.assertEqual(lessened(("table", 1, (1, 1, 1), (1, 2, 2)), 2), ("table", 1, (0, 0, 1), (1, 1, 1)))
        self.assertEqual(lessened(("table", 1, (0, 2, 1), (1, 2)), 1), ("table", 1, (0, 1, 1), (1, 1)))
        self.assertIsNone(lessened(("table", 1, (0, 2), (1, 1)), 2))
        self.assertIsNone(lessened(("table", 1, (1, 1), (0, 2)), 2))
        self.assertEqual(lessened(("web", (1, 1, 1, 1, 0)), 2), ("web", (0, 0, 0, 0, 0)))
        self.assertEqual(lessened(("web", (0, 1, 2, 2, 2)), 1), ("web", (0, 1, 1, 1, 2)))
        self.assertIsNone(lessened(("web", (1, 1, 1, 0)), 2))

    def test_no_or_too_many_units(self):
        for sums in (CROSS, ("web", (1, 1, 0)), ("web", (0,)), ("table", 9, (THIRTY,), (0,))):
            self.assertEqual(lessened(sums, 0), sums)
            for many in (4, 9, THIRTY, FORTY):
                self.assertIsNone(lessened(sums, many))
        self.assertEqual(lessened(("table", 1, (1,) * 12, (1,) * 12), 12), ("table", 1, (0,) * 12, (0,) * 12))
        self.assertIsNone(lessened(("table", 1, (1,) * 12, (1,) * 11), 12))
        self.assertEqual(lessened(("web", (THIRTY,) * 16), 8), ("web", (THIRTY - 1,) * 16))
        self.assertIsNone(lessened(("web", (THIRTY,) * 16), 9))
        self.assertIsNone(lessened(("web", (THIRTY,) * 15), 8))

    def test_wrong_arguments(self):
        for wrong in NO_BOTH_SUMS:
            self.fails(InvalidSums, lessened, wrong, 1)
            self.fails(InvalidSums, lessened, wrong, None)
        for wrong in NO_INTEGERS + [-1, -FORTY]:
            for sums in (CROSS, ("web", (1,))):
                self.fails_by_number(lessened, wrong, sums, wrong)
        self.first_decides(lessened, [(CROSS, ("tournament", (0,)), InvalidSums), (1, -1, InvalidNumber)])


class Most(Case):
    def test_against_all_things(self):
        for sizes in SIZES:
            for sums, things in by_sums(all_things(*sizes)).items():
                most = max(most_in(told, sums) for told in things)
                self.assertEqual(most_apart(sums), most)
                self.assertTrue(all(lessened(sums, many) is not None for many in range(most + 1)))

    def test_cover_against_all_pairs(self):
        for sizes in SIZES:
            if sizes[:2] == ("table", 1):
                for sums in by_sums(all_things(*sizes)):
                    bounds = cover_bounds(*sums[2:])
                    least = min(bounds.values())
                    self.assertEqual(first_cover(sums), min(pair for pair in bounds if bounds[pair] == least))
                    self.assertEqual(most_apart(sums), least)

    def test_great_tables(self):
        for table in some_tables(60, caps=(1,)):
            bounds = cover_bounds(*table.sums[2:])
            pair = first_cover(table.sums)
            self.assertEqual(bounds[pair], min(bounds.values()))
            self.assertEqual(most_apart(table.sums), bounds[pair])
            self.assertEqual(first_cover(("table", 1, (0,) * 12, (0,) * 12)), (0, 0))

    def test_most_and_not_the_number_of_lines(self):
        # The lesser of the numbers of lines and columns that are not 0 is not the most: (0.12).
        self.assertEqual(most_apart(CROSS), 2)
        self.assertEqual(most_apart(("web", (3, 1, 1, 1))), 1)
        self.assertEqual(most_apart(("web", (0,))), 0)

    def test_wrong_arguments(self):
        for call, rest in ((most_apart, ()), (apart_paper, ()), (first_cover, ()), (is_apart_paper, (None,))):
            for wrong in NO_BOTH_SUMS:
                self.fails(InvalidSums, call, wrong, *rest)
            for sums in NOT_POSSIBLE:
                self.fails(InvalidOperation, call, sums, *rest)
        for sums in (("web", (1, 1)), ("table", 2, (2,), (2,)), ("web", (1,)), ("table", 9, (1,), (2,))):
            self.fails(InvalidOperation, first_cover, sums)
        self.fails(InvalidOperation, is_apart_paper, ("web", (1,)), (Web(1), (), "range"))


class Papers(Case):
    def check(self, sums):
        paper = apart_paper(sums)
        thing, units, over = paper
        self.assertEqual((type(paper), thing.sums, type(units), len(units)), (tuple, sums, tuple, most_apart(sums)))
        self.assertEqual(list(units), sorted(set(units)))
        self.assertTrue(are_apart(sums[0], units))
        self.assertTrue(all(number_at(told_of(thing), place) > 0 for place in units))
        left = less_by(sums, len(units) + 1)
        if left is None:
            self.assertEqual(over, "range")
        elif max(len(row) for row in left if isinstance(row, tuple)) <= 5:
            self.assertIn(over, bars_of(left))
        self.assertIs(is_apart_paper(sums, paper), True)

    def test_small_sums(self):
        for sizes in SIZES:
            for sums in by_sums(all_things(*sizes)):
                self.check(sums)

    def test_all_sizes(self):
        for table in some_tables(150):
            self.check(table.sums)
        for places in (5, 9, 12, 15, 16):
            for web in some_webs(places, 40):
                self.check(web.sums)

    def test_greatest_things(self):
        for cap in (1, 5, 9):
            for number in (0, 1, cap // 2, 12 * cap):
                self.check(("table", cap, (number,) * 12, (number,) * 12))
        self.check(("table", 1, (12,) + (1,) * 11, (12,) + (1,) * 11))
        self.check(("table", 9, (108,) + (9,) * 11, (108,) + (9,) * 11))
        for number in (0, 1, 2, 7, 8, 15):
            self.check(("web", (number,) * 16))
        self.check(("web", (15,) + (1,) * 15))
        self.check(("web", (14,) * 15))

    def test_all_papers_are_judged(self):
        for sizes in (("table", 1, 2, 2), ("table", 2, 2, 1), ("table", 1, 2, 3), ("web", 3), ("web", 4)):
            groups = by_sums(all_things(*sizes))
            for sums, things in list(groups.items())[::2]:
                most = max(most_in(told, sums) for told in things)
                left = less_by(sums, most + 1)
                bars = ["range"] if left is None else bars_of(left)
                for told in things + list(groups.values())[0]:
                    for size in range(most + 2):
                        for units in combinations(places_of(sums), size):
                            right = (told in things and size == most and set(units) <= set(full_places(told, sums))
                                     and are_apart(sums[0], units))
                            for over in bars:
                                paper = (thing_told(told), units, over)
                                self.assertIs(is_apart_paper(sums, paper), right)

    def test_bars_are_judged(self):
        for sums in (("web", (2, 1, 1)), ("web", (3, 1, 1, 1)), CROSS, ("table", 2, (4,), (2, 2)), ("web", (2, 2, 2))):
            thing, units, _ = apart_paper(sums)
            left = less_by(sums, len(units) + 1)
            right = ["range"] if left is None else bars_of(left)
            every = bars_of(("table", 1, (9, 9, 9), (9, 9, 9)) if sums[0] == "table" else ("web", (9,) * 4))
            for over in every + [("odd", total) for total in range(9)] + ["range", None, ("lines", ()), ("bar", ())]:
                self.assertIs(is_apart_paper(sums, (thing, units, over)), over in right)

    def test_units_are_told_ascending_and_once(self):
        sums = ("web", (1, 1, 1, 1))
        web = Web(4, (0, 1), (2, 3))
        for units, right in ((((0, 1), (2, 3)), True), (((2, 3), (0, 1)), False), (((0, 1), (0, 1)), False),
                             (((0, 1),), False), ((), False), (((1, 0), (2, 3)), False), ([(0, 1), (2, 3)], False),
                             (((0, 1), [2, 3]), False), (((0, 2), (1, 3)), False), (((0, 1), (2, 3), (2, 3)), False),
                             (((False, True), (2, 3)), False), (((0, 1), (2, 3, 4)), False), (None, False),
                             (((0, 1), (2, 4)), False), (((0, 1), (2, "3")), False), (((0, 1), None), False)):
            self.assertIs(is_apart_paper(sums, (web, units, "range")), right)

    def test_units_of_one_line_or_column(self):
        full = Table(1, (1, 1), (1, 1))
        self.assertIs(is_apart_paper(full.sums, (full, ((0, 1), (1, 0)), "range")), True)
        for units in (((0, 0), (0, 1)), ((0, 0), (1, 0)), ((0, 1), (1, 1))):
            self.assertIs(is_apart_paper(full.sums, (full, units, "range")), False)

    def test_all_else_is_refused(self):
        paper = apart_paper(CROSS)
        thing, units, over = paper
        for value in (list(paper), (thing, units), (units, thing, over), (thing, units, over, over), (None, units, over),
                      (thing, units, list(over)), (thing, units, None), (thing.flipped().opposite(), units, over),
                      (Table(1, (1,)), units, over), (Tournament(()), (), "range"), ((), (), ())):
            self.assertIs(is_apart_paper(CROSS, value), False)
        for sums in (CROSS, ("web", (1, 1, 0)), ("web", (0,)), ("table", 2, (2,), (2,))):
            self.judges_every_kind(is_apart_paper, sums)
            good = apart_paper(sums)
            for value in EVERY:
                for at in range(3):
                    told = good[:at] + (value,) + good[at + 1:]
                    self.assertIs(type(is_apart_paper(sums, told)), bool)
