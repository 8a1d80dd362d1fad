"""Counts [K.1] to [K.3]."""

from itertools import islice, permutations, product

from sumsalone.base.things import Table, Tournament, Web
from sumsalone.count.counts import count_things, each_thing, shape_counts
from sumsalone.errors import InvalidSums, TooMany
from sumsalone.fill.fillings import count_fillings
from sumsalone.webs.nested import nested_rows
from tests.kinds import NO_SUMS, THIRTY, Case
from tests.plain import all_things, by_sums, rows_up_to, sorted_rows, under
from tests.some import thing_told
from tests.test_fillings import all_shapes, turned_told

SIZES = [("table", 1, 1, 1), ("table", 3, 1, 1), ("table", 1, 2, 2), ("table", 2, 2, 2), ("table", 3, 2, 2),
         ("table", 1, 2, 4), ("table", 1, 3, 3), ("table", 2, 2, 3), ("table", 3, 1, 3), ("table", 3, 3, 1), ("web", 1),
         ("web", 2), ("web", 3), ("web", 4), ("web", 5), ("tournament", 1), ("tournament", 2), ("tournament", 3),
         ("tournament", 4), ("tournament", 5)]
KEYS = {"table": lambda told: told[2], "web": lambda told: told[2], "tournament": lambda told: told[1]}


def small_sums(sizes, most):
    if sizes[0] != "table":
        return [(sizes[0], row) for row in rows_up_to(sizes[1], most)]
    return [("table", sizes[1]) + pair for pair in product(rows_up_to(sizes[2], most), rows_up_to(sizes[3], most))]


def shapes_told(sums):
    """The shapes of sums, by (K.3)."""
    if sums[0] == "tournament":
        return [tuple(range(len(sums[1]) - 1, 0, -1))]
    if sums[0] == "web":
        return [tuple(entry for entry in row if entry) for row in nested_rows(len(sums[1]), sum(sums[1]))]
    return all_shapes(sum(sums[2])) if sum(sums[2]) == sum(sums[3]) else []


def counts_told(sums):
    found = {}
    for shape in sorted(shapes_told(sums)):
        many = count_fillings(shape, sums[1] if sums[0] != "table" else sums[2])
        if sums[0] == "table":
            many *= count_fillings(turned_told(shape), sums[3])
        if many:
            found[shape] = many
    return found


class Things(Case):
    def test_against_all_things(self):
        for sizes in SIZES:
            groups = by_sums(all_things(*sizes))
            for sums, things in groups.items():
                things = sorted(things, key=KEYS[sizes[0]])
                self.assertEqual(count_things(sums), len(things))
                self.assertEqual(list(each_thing(sums)), [thing_told(told) for told in things])
            for sums in small_sums(sizes, 3 if sizes[0] != "table" or sizes[2] * sizes[3] < 8 else 1):
                if sums not in groups:
                    self.assertEqual((count_things(sums), list(each_thing(sums))), (0, []))

    def test_ascending_and_each_once(self):
        for sums in (("table", 1, (2, 2, 2, 2), (2, 2, 2, 2)), ("table", 2, (3, 2, 3), (2, 3, 3)), ("web", (2,) * 6),
                     ("table", 3, (4, 4), (3, 3, 2)), ("tournament", (2, 2, 3, 3, 2, 3)), ("web", (3, 3, 2, 2, 1, 1))):
            things = list(each_thing(sums))
            keys = [thing.lines if sums[0] == "table" else thing.ties if sums[0] == "web" else thing.beaten
                    for thing in things]
            self.assertEqual(keys, sorted(set(keys)))
            self.assertEqual(len(keys), count_things(sums))
            self.assertTrue(all(thing.sums == sums for thing in things))

    def test_known_numbers(self):
        for sums, many in ((("table", 1, (3,) * 6, (3,) * 6), 297200), (("table", 1, (3,) * 7, (3,) * 7), 68938800),
                           (("table", 1, (1,) * 7, (1,) * 7), 5040), (("web", (1,) * 6), 15), (("web", (2,) * 7), 465),
                           (("tournament", (3,) * 7), 2640), (("tournament", tuple(range(7))), 1),
                           (("table", 3, (3,) * 3, (3,) * 3), 55), (("web", (6,) * 7), 1), (("web", (0,) * 7), 1)):
            self.assertEqual(count_things(sums), many)

    def test_greatest_sizes(self):
        for sums in (("table", 3, (8, 7, 7, 8, 7), (5, 6, 7, 9, 10)), ("table", 3, (15,) * 5, (15,) * 5),
                     ("table", 2, (5,) * 5, (5,) * 5), ("table", 1, (3, 4, 3, 4, 3, 4, 3), (4, 3, 4, 3, 4, 3, 3)),
                     ("table", 1, (4,), (1,) * 4 + (0,) * 3), ("web", (3, 3, 3, 3, 3, 3, 2)), ("web", (4,) * 7),
                     ("tournament", (2, 3, 3, 3, 3, 3, 4)), ("table", 3, (8,) * 5, (8,) * 5)):
            many = count_things(sums)
            things = list(islice(each_thing(sums), 40))
            self.assertEqual(len(things), min(many, 40))
            self.assertTrue(all(thing.sums == sums for thing in things))
            self.assertEqual(len(things), len([one for at, one in enumerate(things) if one not in things[:at]]))

    def test_great_entries(self):
        for sums in (("table", 1, (THIRTY,) * 7, (THIRTY,) * 7), ("table", 3, (THIRTY,) * 5, (THIRTY,) * 5),
                     ("web", (THIRTY,) * 7), ("tournament", (THIRTY,) * 7), ("table", 3, (THIRTY,), (3,) * 5)):
            self.assertEqual((count_things(sums), list(each_thing(sums))), (0, []))
            if sums[0] != "table" or sums[1] == 1:
                if sums[0] != "table":
                    self.assertEqual(shape_counts(sums), {})
        self.assertEqual(shape_counts(("table", 1, (THIRTY,) * 6, (THIRTY,) * 6)), {})
        self.assertEqual(shape_counts(("table", 1, (43,), (43,))), {})

    def test_order_does_not_matter(self):
        for kind, rows in (("web", sorted_rows(4, 6)), ("tournament", sorted_rows(4, 6))):
            for row in rows:
                self.assertEqual(len({count_things((kind, order)) for order in permutations(row)}), 1)
        for cap, one, other in ((1, (2, 1, 1), (2, 2, 0)), (2, (3, 1, 2), (2, 4)), (3, (4, 1), (3, 1, 1))):
            counts = {count_things(("table", cap, lines, columns))
                      for lines in permutations(one) for columns in permutations(other)}
            counts |= {count_things(("table", cap, other, one))}
            self.assertEqual(len(counts), 1)

    def test_more_even_rows_have_more_things(self):
        for kind in ("web", "tournament"):
            for lower, upper in product(sorted_rows(5, 10), repeat=2):
                if under(lower, upper):
                    self.assertGreaterEqual(count_things((kind, lower)), count_things((kind, upper)))
        for cap, columns in ((1, (2, 2, 1, 1)), (2, (3, 2, 1)), (3, (4, 2)), (2, (2, 2, 2))):
            for lower, upper in product(sorted_rows(3, sum(columns)), repeat=2):
                if under(lower, upper):
                    self.assertGreaterEqual(count_things(("table", cap, lower, columns)),
                                            count_things(("table", cap, upper, columns)))

    def test_wrong_sums(self):
        for wrong in NO_SUMS:
            self.fails(InvalidSums, count_things, wrong)
            self.fails(InvalidSums, next, each_thing(wrong))
            self.fails(InvalidSums, shape_counts, wrong)

    def test_errors_come_with_the_first_one(self):
        waiting = each_thing(None), each_thing(("web", (0,) * 8)), each_thing(("table", 4, (1,), (1,)))
        self.fails(InvalidSums, next, waiting[0])
        self.fails(TooMany, next, waiting[1], keeps=("limit", 7))
        self.fails(TooMany, next, waiting[2], keeps=("limit", 3))

    def test_too_many(self):
        for sums, limit in ((("table", 4, (1,), (1,)), 3), (("table", 9, (0,) * 12, (0,) * 12), 3),
                            (("table", 2, (0,) * 6, (0,)), 5), (("table", 3, (0,), (0,) * 6), 5),
                            (("table", 2, (0,) * 8, (0,) * 12), 5), (("table", 1, (0,) * 8, (0,)), 7),
                            (("table", 1, (0,), (0,) * 8), 7), (("web", (0,) * 8), 7), (("web", (1,) * 16), 7),
                            (("tournament", (0,) * 8), 7), (("tournament", tuple(range(16))), 7)):
            self.fails(TooMany, count_things, sums, keeps=("limit", limit))
            self.fails(TooMany, next, each_thing(sums), keeps=("limit", limit))
        for sums in (("table", 3, (0,) * 5, (0,) * 5), ("table", 2, (0,) * 5, (0,) * 5), ("table", 1, (0,) * 7, (0,) * 7),
                     ("web", (0,) * 7)):
            self.assertEqual((count_things(sums), len(list(each_thing(sums)))), (1, 1))

    def test_things_are_of_their_kind(self):
        self.assertEqual(list(each_thing(("table", 2, (2,), (2,)))), [Table(2, (2,))])
        self.assertEqual(list(each_thing(("web", (0,)))), [Web(1)])
        self.assertEqual(list(each_thing(("tournament", (0,)))), [Tournament(())])
        self.assertEqual([one.ties for one in each_thing(("web", (1,) * 4))],
                         [((0, 1), (2, 3)), ((0, 2), (1, 3)), ((0, 3), (1, 2))])
        self.assertEqual([one.beaten for one in each_thing(("tournament", (1, 1, 1)))],
                         [((1,), (2,), (0,)), ((2,), (0,), (1,))])


class Shapes(Case):
    def test_against_fillings(self):
        for sizes in SIZES:
            if sizes[0] != "table" or sizes[1] == 1:
                for sums in small_sums(sizes, 4 if sizes[0] != "table" or sizes[2] * sizes[3] < 8 else 2)[::2]:
                    self.assertEqual(shape_counts(sums), counts_told(sums))

    def test_adds_up_to_the_number_of_things(self):
        for sizes in SIZES:
            if sizes[0] != "table" or sizes[1] == 1:
                for sums, things in by_sums(all_things(*sizes)).items():
                    counts = shape_counts(sums)
                    self.assertEqual(sum(counts.values()), len(things))
                    self.assertEqual(list(counts), sorted(counts))
                    self.assertNotIn(0, list(counts.values()))

    def test_greatest_sizes(self):
        for sums in (("table", 1, (3,) * 6, (3,) * 6), ("table", 1, (4, 3, 3, 3, 3, 2), (3,) * 6), ("web", (3,) * 6 + (4,)),
                     ("table", 1, (6,) * 6, (6,) * 6), ("web", (4,) * 7), ("tournament", (3,) * 7), ("web", (6,) * 7),
                     ("tournament", (6, 5, 4, 3, 2, 1, 0)), ("web", (2,) * 7)):
            counts = shape_counts(sums)
            self.assertEqual(sum(counts.values()), count_things(sums))
            self.assertEqual(list(counts), sorted(counts))
        self.assertEqual(shape_counts(("table", 1, (6,) * 6, (6,) * 6)), {(6,) * 6: 1})

    def test_no_units(self):
        for sums in (("table", 1, (0,), (0, 0)), ("web", (0,)), ("web", (0, 0, 0)), ("tournament", (0,))):
            self.assertEqual(shape_counts(sums), {(): 1})
        for sums in (("table", 1, (1,), (0,)), ("web", (1,)), ("web", (3, 3)), ("tournament", (1,)), ("tournament", (0, 0)),
                     ("table", 1, (2,), (2,)), ("web", (1, 1, 1))):
            self.assertEqual(shape_counts(sums), {})

    def test_wrong_sums(self):
        for cap in (2, 3, 4, 9):
            self.fails(InvalidSums, shape_counts, ("table", cap, (1,), (1,)))
            self.fails(InvalidSums, shape_counts, ("table", cap, (1,) * 12, (1,) * 12))
        for sums, limit in ((("table", 1, (0,) * 7, (0,)), 6), (("table", 1, (0,), (0,) * 7), 6), (("web", (0,) * 8), 7),
                            (("tournament", (0,) * 8), 7), (("table", 1, (THIRTY,) * 12, (0,)), 6),
                            (("web", (THIRTY,) * 16), 7)):
            self.fails(TooMany, shape_counts, sums, keeps=("limit", limit))
