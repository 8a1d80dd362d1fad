"""Things with a part [8.1] to [8.3]."""

from itertools import product
from random import Random

from sumsalone.base.things import Table, Web
from sumsalone.both.parted import has_part, is_level, is_parted_paper, parted_paper, rest_of
from sumsalone.errors import InvalidOperation, InvalidSums
from tests.kinds import EVERY, NO_ROWS, NO_SUMS, THIRTY, Case
from tests.plain import all_things, bars_of, by_sums, parts_below, rows_up_to, sums_of_told
from tests.some import some_tables, some_webs, thing_told
from tests.test_carried import told_of

SIZES = [("table", 1, 1, 1), ("table", 1, 2, 2), ("table", 2, 2, 1), ("table", 1, 2, 3), ("table", 2, 2, 2), ("web", 1),
         ("web", 2), ("web", 3), ("web", 4)]
NO_SHARES = NO_SUMS + [("tournament", (1, 0)), ("tournament", (0,)), ("tournament", (1, 1))]
HOOK, ONES = ("table", 1, (2, 1), (2, 1)), ("table", 1, (1, 1), (1, 1))


def is_even(row):
    return max(row) - min(row) <= 1


def is_share(share):
    return any(is_even(row) for row in share[-2:] if isinstance(row, tuple))


def less(sums, share):
    """The rest, or None."""
    left = tuple(tuple(a - b for a, b in zip(row, other)) if isinstance(row, tuple) else row
                 for row, other in zip(sums, share))
    return None if any(min(row) < 0 for row in left if isinstance(row, tuple)) else left


def all_sums(sizes):
    """All sums of things of these sizes, possible or not, with entries up to the greatest that a thing can have."""
    if sizes[0] == "web":
        return [("web", row) for row in rows_up_to(sizes[1], sizes[1])]
    _, cap, lines, columns = sizes
    return [("table", cap) + pair for pair in product(rows_up_to(lines, min(cap * columns, 3)),
                                                      rows_up_to(columns, min(cap * lines, 3)))]


def pairs_of_sums(sizes):
    every = all_sums(sizes)
    shares = [share for share in every if is_share(share)]
    random = Random(4)
    for sums in random.sample(every, min(len(every), 60)):
        for share in random.sample(shares, min(len(shares), 60)):
            yield sums, share


def split_webs(places, many, random):
    """Random pairs of a web and of a part of it."""
    for web in some_webs(places, many):
        limit = random.random()
        yield web, Web(places, *[tie for tie in web.ties if random.random() < limit])


class Rests(Case):
    def test_is_level(self):
        for row in rows_up_to(1, 3) + rows_up_to(3, 3):
            self.assertIs(is_level(row), is_even(row))
        for wrong in NO_ROWS:
            self.assertIs(is_level(wrong), False)
        self.assertIs(is_level((THIRTY, THIRTY - 1) * 32), True)
        self.assertIs(is_level((THIRTY, THIRTY - 2)), False)
        self.assertIs(is_level((0,) * 65), False)
        self.judges_every_kind(is_level)

    def test_rest_of(self):
        for sizes in SIZES:
            for sums, share in pairs_of_sums(sizes):
                self.assertEqual(rest_of(sums, share), less(sums, share))
        self.assertEqual(rest_of(("web", (THIRTY,) * 16), ("web", (THIRTY - 1,) * 16)), ("web", (1,) * 16))
        self.assertEqual(rest_of(HOOK, ("table", 1, (2, 1), (2, 1))), ("table", 1, (0, 0), (0, 0)))
        self.assertIsNone(rest_of(HOOK, ("table", 1, (2, 2), (0, 0))))
        self.assertIsNone(rest_of(HOOK, ("table", 1, (0, 0), (2, 2))))

    def test_lines_or_columns_have_to_be_level(self):
        for share, right in ((("table", 1, (2, 0), (1, 1)), True), (("table", 1, (1, 1), (2, 0)), True),
                             (("table", 1, (2, 0), (2, 0)), False), (("table", 1, (0, 0), (0, 0)), True),
                             (("table", 1, (0, 2), (0, THIRTY)), False), (("table", 1, (1, 2), (0, THIRTY)), True)):
            for call, rest in ((rest_of, ()), (has_part, ()), (parted_paper, ()), (is_parted_paper, (None,))):
                if right:
                    call(("table", 1, (3, 3), (3, 3)), share, *rest)
                else:
                    self.fails(InvalidOperation, call, ("table", 1, (3, 3), (3, 3)), share, *rest)
        self.fails(InvalidOperation, rest_of, ("web", (2, 2, 2)), ("web", (2, 1, 0)))
        self.assertEqual(rest_of(("web", (2, 2, 2)), ("web", (2, 1, 1))), ("web", (0, 1, 1)))

    def test_wrong_arguments(self):
        for call, rest in ((rest_of, ()), (has_part, ()), (parted_paper, ()), (is_parted_paper, (None,)),
                           (is_parted_paper, (("rest", "range"),))):
            for wrong in NO_SHARES:
                self.fails(InvalidSums, call, wrong, ONES, *rest)
                self.fails(InvalidSums, call, HOOK, wrong, *rest)
                self.fails(InvalidSums, call, wrong, None, *rest)
            for one, other in ((HOOK, ("web", (1, 1))), (("web", (1, 1)), ONES), (HOOK, ("table", 2, (1, 1), (1, 1))),
                               (HOOK, ("table", 1, (1, 1, 1), (1, 1))), (HOOK, ("table", 1, (1, 1), (1,))),
                               (("web", (1, 1)), ("web", (1, 1, 1))), (("web", (1, 1)), ("web", (1,)))):
                self.fails(InvalidOperation, call, one, other, *rest)
        for call in (rest_of, has_part, parted_paper):
            self.first_decides(call, [(HOOK, ("tournament", (1, 0)), InvalidSums), (ONES, ("web", ()), InvalidSums)],
                               later=(HOOK, ("web", (1, 1))))


class Parts(Case):
    def check(self, sums, share, is_there):
        self.assertIs(has_part(sums, share), is_there)
        paper = parted_paper(sums, share)
        self.assertIs(type(paper), tuple)
        self.assertIs(is_parted_paper(sums, share, paper), True)
        self.assertIs(paper[0] == "made", is_there)
        if is_there:
            _, thing, part = paper
            self.assertEqual((thing.sums, part.sums), (sums, share))
            self.assertTrue(self.is_part(told_of(thing), told_of(part)))
        elif paper[0] == "whole":
            self.assertIn(paper[1], bars_of(sums))
        else:
            self.assertEqual((paper[0], len(paper)), ("rest", 2))
            rest = less(sums, share)
            if rest is None:
                self.assertEqual(paper[1], "range")
            else:
                self.assertIn(paper[1], bars_of(rest))

    def is_part(self, told, part):
        if told[0] == "web":
            return told[1] == part[1] and set(part[2]) <= set(told[2])
        return told[1] == part[1] and len(told[2]) == len(part[2]) and all(
            len(line) == len(other) and all(b <= a for a, b in zip(line, other))
            for line, other in zip(told[2], part[2]))

    def test_against_all_things_and_all_parts(self):
        for sizes in SIZES:
            found = {(sums, sums_of_told(part)) for sums, things in by_sums(all_things(*sizes)).items()
                     for told in things for part in parts_below(told)}
            for sums, share in pairs_of_sums(sizes):
                self.check(sums, share, (sums, share) in found)
            for sums, share in found:
                if is_share(share):
                    self.assertIs(has_part(sums, share), True)

    def test_all_shares_of_greater_things(self):
        random = Random(10)
        for sizes in (("table", 1, 3, 3), ("table", 1, 2, 4), ("web", 5)):
            found = {}
            every = all_things(*sizes)
            for told in random.sample(every, 120):
                for part in parts_below(told):
                    found[(sums_of_told(told), sums_of_told(part))] = True
            for sums, share in random.sample(sorted(found), 400):
                if is_share(share):
                    self.check(sums, share, True)

    def test_webs_of_six_places(self):
        random = Random(11)
        for web, part in split_webs(6, 400, random):
            if is_even(part.degrees):
                self.check(web.sums, part.sums, True)

    def test_great_webs(self):
        random = Random(12)
        for web in some_webs(16, 60):
            least = min(web.degrees)
            for many in range(least + 1):
                share = ("web", tuple(many + (random.random() < 0.3 and many < entry) for entry in web.degrees))
                rest = less(web.sums, share)
                paper = parted_paper(web.sums, share)
                self.assertIs(is_parted_paper(web.sums, share, paper), True)
                self.assertIs(has_part(web.sums, share), paper[0] == "made")
                self.assertIsNotNone(rest)
        self.check(("web", (15,) * 16), ("web", (7,) * 16), True)
        self.check(("web", (14,) * 15), ("web", (6,) * 15), True)
        self.check(("web", (8,) * 16), ("web", (8,) * 16), True)
        self.check(("web", (8,) * 16), ("web", (0,) * 16), True)

    def test_great_tables(self):
        random = Random(13)
        for table in some_tables(150):
            part = self.part_with_level_lines(table, random)
            self.check(table.sums, part.sums, True)
            flipped = part.flipped()
            self.check(table.flipped().sums, flipped.sums, True)
        full = ("table", 9, (108,) * 12, (108,) * 12)
        self.check(full, ("table", 9, (50,) * 12, (50,) * 12), True)
        self.check(full, full, True)
        half = ("table", 9, (54,) * 12, (54,) * 12)
        self.check(half, ("table", 9, (27,) * 12, (27,) * 12), True)
        self.check(half, ("table", 9, (27,) * 12, (54,) * 6 + (0,) * 6), True)
        self.check(half, ("table", 9, (54,) * 6 + (0,) * 6, (27,) * 12), True)

    def part_with_level_lines(self, table, random):
        most = min(table.line_sums)
        lines = []
        for line in table.lines:
            cells = [0] * len(line)
            wanted = min(sum(line), random.choice((most // 2, most // 2 + 1)))
            while sum(cells) < wanted:
                column = random.randrange(len(line))
                cells[column] += cells[column] < line[column]
            lines.append(tuple(cells))
        return Table.of(table.cap, tuple(lines))

    def test_great_entries(self):
        for sums, share in ((("web", (THIRTY, 1)), ("web", (1, 1))), (("web", (1, 1)), ("web", (THIRTY, THIRTY))),
                            (("table", 9, (THIRTY,), (THIRTY,)), ("table", 9, (1,), (1,))),
                            (("table", 9, (9,), (9,)), ("table", 9, (1,), (0,))),
                            (("table", 9, (9,), (9,)), ("table", 9, (THIRTY,), (9,)))):
            self.check(sums, share, False)

    def test_what_is_not_true(self):
        # Without a level share, possible sums and a possible rest do not suffice: (0.12).
        self.fails(InvalidOperation, has_part, ("web", (3, 2, 2, 2, 1)), ("web", (2, 0, 1, 1, 0)))


class Papers(Case):
    def test_all_things_are_judged(self):
        for sizes in (("table", 1, 2, 2), ("table", 2, 1, 2), ("web", 3), ("web", 4)):
            every = all_things(*sizes)[::1 if sizes != ("web", 4) else 3]
            things = [(told, thing_told(told)) for told in every]
            sums_told = sorted({sums_of_told(told) for told in every})
            for sums in sums_told[::3]:
                for share in [one for one in sums_told if is_share(one)][::3]:
                    for (told, thing), (other, part) in product(things, repeat=2):
                        right = sums_of_told(told) == sums and sums_of_told(other) == share and other in parts_below(told)
                        self.assertIs(is_parted_paper(sums, share, ("made", thing, part)), right)

    def test_all_bars_are_judged(self):
        for sizes in (("table", 1, 2, 2), ("web", 3), ("web", 4)):
            for sums, share in list(pairs_of_sums(sizes))[::5]:
                rest = less(sums, share)
                bars = {word: [] if one is None else bars_of(one) for word, one in (("whole", sums), ("rest", rest))}
                for word, right in bars.items():
                    for bar in bars_of(("web", (9,) * len(sums[1])) if sums[0] == "web" else ("table", 1, (9, 9), (9, 9))):
                        self.assertIs(is_parted_paper(sums, share, (word, bar)), bar in right)
                    for total in range(12):
                        self.assertIs(is_parted_paper(sums, share, (word, ("odd", total))), ("odd", total) in right)
                    for kind, some in product(("lines", "columns", "bar"), ((), (0,), (1,), (0, 1))):
                        self.assertIs(is_parted_paper(sums, share, (word, (kind, some))), (kind, some) in right)
                self.assertIs(is_parted_paper(sums, share, ("rest", "range")), rest is None)
                self.assertIs(is_parted_paper(sums, share, ("whole", "range")), False)

    def test_things_with_the_sums_are_no_bars(self):
        web = Web(2, (0, 1))
        for word in ("whole", "rest"):
            self.assertIs(is_parted_paper(web.sums, ("web", (0, 0)), (word, ("made", web))), False)
            table = Table(1, (1, 1), (1, 0))
            self.assertIs(is_parted_paper(HOOK, ("table", 1, (0, 0), (0, 0)), (word, ("made", table))), False)

    def test_all_else_is_refused(self):
        whole, part = Table(1, (1, 1), (1, 0)), Table(1, (0, 1), (1, 0))
        self.assertIs(is_parted_paper(HOOK, ONES, ("made", whole, part)), True)
        for value in (["made", whole, part], ("made", whole), ("made", part, whole), ("made", whole, part, part),
                      ("Made", whole, part), (whole, part), ("made", whole, Table(1, (1, 0), (0, 1))),
                      ("whole", whole, part), ("rest", whole, part), ("made", None, part), ("made", whole, None),
                      ("rest", "range"), ("whole", "range"), ("made",), (None, whole, part), ("made", Web(2), part),
                      ("made", whole, Table(2, (0, 1), (1, 0))), ("made", (whole, part))):
            self.assertIs(is_parted_paper(HOOK, ONES, value), False)
        barred = ("table", 1, (2, 2), (3, 1))
        for value in (("whole", ("columns", (0,))), ("rest", ("columns", (0,)))):
            self.assertIs(is_parted_paper(barred, ("table", 1, (0, 0), (0, 0)), value), True)
        for value in (("whole", ("columns", (0,)), 1, 1), ("whole", ["columns", (0,)]), ("whole", ("columns", [0])), ("whole", ("columns", (0,)), 1),
                      ("Whole", ("columns", (0,))), ("whole", ("lines", (0,))), ("whole",), ("columns", (0,)),
                      ("rest", "range"), (("columns", (0,)), "whole")):
            self.assertIs(is_parted_paper(barred, ("table", 1, (0, 0), (0, 0)), value), False)
        ranged = ("table", 1, (1, 2), (2, 1))
        self.assertIs(is_parted_paper(HOOK, ranged, ("rest", "range")), True)
        for value in (("rest", "Range"), ("rest", ""), ("rest", None), ["rest", "range"], ("rest", "range", 1), "range",
                      ("whole", "range"), ("rest", ("range",)), ("rest", ("lines", (1,))),
                      ("rest", "range", 1, 1), ("Rest", "range"), ("", "range"), (None, "range"), ("made", "range")):
            self.assertIs(is_parted_paper(HOOK, ranged, value), False)
        for sums, share in ((HOOK, ONES), (HOOK, ranged), (barred, ONES), (("web", (1, 1)), ("web", (1, 1)))):
            self.judges_every_kind(is_parted_paper, sums, share)
            for value in EVERY:
                for word in ("whole", "rest"):
                    self.assertIn(is_parted_paper(sums, share, (word, value)), (True, False))
                right = sums == ("web", (1, 1)) and value == Web(2, (0, 1))
                self.assertIs(is_parted_paper(sums, share, ("made", value, value)), right)
