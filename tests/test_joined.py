"""Things in one piece [8.7] to [8.9]."""

from itertools import product
from random import Random

from sumsalone.base.ends import count_ends, most_between, numbers_of, thing_of
from sumsalone.base.things import Table, Web
from sumsalone.both.joined import (_firm, _joined, can_be_firm, can_join, firm_paper, is_firm, is_firm_paper, is_joined,
                                   is_joined_paper, joined_paper)
from sumsalone.errors import InvalidOperation, InvalidSums
from tests.kinds import EVERY, FORTY, THIRTY, Case
from tests.plain import (all_things, all_webs, bars_of, by_sums, degrees_of, held, is_possible_web, rows_up_to,
                         with_cells)
from tests.some import some_tables, some_webs, thing_told
from tests.test_apart import NO_BOTH_SUMS, NOT_POSSIBLE
from tests.test_carried import told_of

SIZES = [("table", 1, 1, 1), ("table", 3, 1, 1), ("table", 1, 1, 3), ("table", 2, 3, 1), ("table", 1, 2, 2),
         ("table", 2, 2, 2), ("table", 3, 2, 2), ("table", 1, 2, 3), ("table", 1, 3, 3), ("table", 1, 2, 5),
         ("table", 1, 4, 3), ("table", 2, 2, 3), ("table", 3, 2, 2), ("web", 1), ("web", 2), ("web", 3), ("web", 4),
         ("web", 5)]


def links_of(told):
    """The pairs of ends that hang together, as often as there are units between them."""
    if told[0] == "web":
        return list(told[2])
    return [(("line", i), ("column", j)) for i, line in enumerate(told[2]) for j, cell in enumerate(line)
            for _ in range(cell)]


def ends_of(told):
    if told[0] == "web":
        return list(range(told[1]))
    return [("line", i) for i in range(len(told[2]))] + [("column", j) for j in range(len(told[2][0]))]


def hangs_together(ends, links):
    """Whether there is a way from the first end to each other one."""
    reached = [ends[0]]
    for end in reached:
        for pair in links:
            if end in pair:
                reached.extend(other for other in pair if other not in reached)
    return len(reached) == len(ends)


def joined_told(told):
    return hangs_together(ends_of(told), links_of(told))


def firm_told(told):
    links = links_of(told)
    return joined_told(told) and all(hangs_together(ends_of(told), links[:at] + links[at + 1:])
                                     for at in range(len(links)))


def low_entries(sums, least):
    if sums == ("web", sums[1]) and len(sums[1]) == 1:
        return []
    if sums[0] == "web":
        return [index for index, entry in enumerate(sums[1]) if entry < least]
    return [(kind, index) for kind, row in (("line", sums[2]), ("column", sums[3]))
            for index, entry in enumerate(row) if entry < least]


def total_of(sums):
    return sum(sums[1] if sums[0] == "web" else sums[2])


def needed_total(sums):
    return 2 * (len(sums[1]) - 1) if sums[0] == "web" else len(sums[2]) + len(sums[3]) - 1


def table_is_possible(cap, lines, columns):
    lines = sorted(lines, reverse=True)
    return sum(lines) == sum(columns) and all(sum(lines[:k]) <= held(cap, k, columns) for k in range(len(lines) + 1))


def small_sums(sizes, most):
    if sizes[0] == "web":
        return [("web", row) for row in rows_up_to(sizes[1], most)]
    return [("table", sizes[1]) + pair for pair in product(rows_up_to(sizes[2], most), rows_up_to(sizes[3], most))]


class Things(Case):
    def test_against_all_ways(self):
        for sizes in SIZES:
            for told in all_things(*sizes):
                thing = thing_told(told)
                self.assertIs(is_joined(thing), joined_told(told))
                self.assertIs(is_firm(thing), firm_told(told))

    def test_each_single_unit_taken_away(self):
        for table in some_tables(25, most=5, caps=(1, 1, 2, 3)):
            told = told_of(table)
            self.assertIs(is_joined(table), joined_told(told))
            cells = [(i, j) for i, line in enumerate(table.lines) for j, cell in enumerate(line) if cell]
            rest = [is_joined(Table.of(table.cap, with_cells(table.lines, {cell: -1}))) for cell in cells]
            self.assertIs(is_firm(table), is_joined(table) and all(rest))
        for places in (3, 6, 16):
            for web in some_webs(places, 25):
                rest = [is_joined(web.with_change(*tie)) for tie in web.ties]
                self.assertIs(is_joined(web), joined_told(told_of(web)))
                self.assertIs(is_firm(web), is_joined(web) and all(rest))

    def test_ends(self):
        self.assertEqual([is_joined(Web(1)), is_firm(Web(1)), is_joined(Web(2)), is_firm(Web(2, (0, 1)))],
                         [True, True, False, False])
        self.assertEqual([is_joined(Table(1, (0,))), is_joined(Table(1, (1,))), is_firm(Table(1, (1,))),
                          is_firm(Table(9, (2,)))], [False, True, False, True])
        self.assertIs(is_joined(Table(1, (1, 1, 1))), True)
        self.assertIs(is_firm(Table(2, (2, 2, 2))), True)
        self.assertIs(is_firm(Table(2, (2, 1, 2))), False)
        self.assertIs(is_joined(Table(1, (1, 0, 1))), False)

    def test_great_things(self):
        path = [(i, i + 1) for i in range(15)]
        self.assertEqual([is_joined(Web(16, *path)), is_firm(Web(16, *path))], [True, False])
        self.assertEqual([is_joined(Web(16, (0, 15), *path)), is_firm(Web(16, (0, 15), *path))], [True, True])
        full = Table(9, *[(9,) * 12] * 12)
        self.assertEqual([is_joined(full), is_firm(full)], [True, True])

    def test_no_thing(self):
        for value in EVERY:
            if not isinstance(value, (Table, Web)):
                self.fails(InvalidOperation, is_joined, value)
                self.fails(InvalidOperation, is_firm, value)


class Papers(Case):
    def check(self, sums, is_possible, *, joined=None, firm=None):
        """Both papers, and whether there are joined and firm things; by (8.8), where it is not told."""
        if joined is None:
            joined = is_possible and (sums == ("web", (0,)) or not low_entries(sums, 1)
                                      and total_of(sums) >= needed_total(sums))
            firm = is_possible and not low_entries(sums, 2)
        self.assertIs(can_join(sums), joined)
        self.assertIs(can_be_firm(sums), firm)
        for make, judge, right, told_right in ((joined_paper, is_joined_paper, joined, joined_told),
                                               (firm_paper, is_firm_paper, firm, firm_told)):
            paper = make(sums)
            self.assertEqual((type(paper), len(paper)), (tuple, 2))
            self.assertIs(judge(sums, paper), True)
            self.assertIs(paper[0] == "made", right)
            if right:
                self.assertEqual(paper[1].sums, sums)
                self.assertTrue(told_right(told_of(paper[1])))
            elif paper[0] == "bar":
                self.assertFalse(is_possible)
                self.assertIn(paper[1], bars_of(sums))
            elif paper[0] == "low":
                self.assertIn(paper[1], low_entries(sums, 1 if judge is is_joined_paper else 2))
            else:
                self.assertEqual(paper, ("few", total_of(sums)))
                self.assertIs(judge, is_joined_paper)
                self.assertLess(paper[1], needed_total(sums))

    def test_against_all_things(self):
        for sizes in SIZES:
            groups = by_sums(all_things(*sizes))
            for sums, things in groups.items():
                self.check(sums, True, joined=any(joined_told(told) for told in things),
                           firm=any(firm_told(told) for told in things))
            for sums in small_sums(sizes, 3 if len(sizes) < 3 or sizes[2] * sizes[3] < 9 else 2)[::3]:
                if sums not in groups and (sizes[0] == "web" or max(sums[2] + sums[3]) <= 3):
                    self.check(sums, False)

    def test_webs_of_six_places(self):
        groups = {}
        for ties in all_webs(6):
            degrees = degrees_of(6, ties)
            if list(degrees) == sorted(degrees) and degrees[0] > 0:
                groups.setdefault(degrees, []).append(("web", 6, ties))
        for degrees, things in groups.items():
            self.check(("web", degrees), True, joined=any(joined_told(told) for told in things),
                       firm=any(firm_told(told) for told in things))

    def test_all_sizes(self):
        for table in some_tables(120):
            self.check(table.sums, True)
        for table in some_tables(120, most=7, caps=(1, 2)):
            self.check(table.sums, True)
        for places in (7, 10, 15, 16):
            for web in some_webs(places, 60):
                self.check(web.sums, True)

    def test_few_units(self):
        """Rows whose entries are as small as they can be, in any order."""
        random = Random(3)
        for least in (1, 2) * 150:
            lines, columns, cap = random.randint(1, 12), random.randint(1, 12), random.choice((1, 1, 2, 9))
            rows = [[least] * lines, [least] * columns]
            while sum(rows[0]) != sum(rows[1]):
                row = rows[sum(rows[0]) > sum(rows[1])]
                row[random.randrange(len(row))] += 1
            self.check(("table", cap, tuple(rows[0]), tuple(rows[1])), table_is_possible(cap, *rows))
            row = [least] * random.randint(1, 16)
            row[random.randrange(len(row))] += sum(row) % 2
            row[random.randrange(len(row))] += 2 * random.randrange(2)
            self.check(("web", tuple(row)), is_possible_web(tuple(row)))

    def test_greatest_things(self):
        for cap in (1, 2, 9):
            for number in (1, 2, 3, 12 * cap):
                self.check(("table", cap, (number,) * 12, (number,) * 12), True)
        self.check(("table", 1, (12, 12) + (2,) * 10, (12, 12) + (2,) * 10), True)
        self.check(("table", 1, (12,) + (1,) * 11, (12,) + (1,) * 11), True)
        self.check(("table", 1, (2,) * 12, (12, 12)), True)
        self.check(("table", 9, (24,), (2,) * 12), True)
        for number in (1, 2, 3, 14, 15):
            self.check(("web", (number,) * 16), True)
        self.check(("web", (15,) + (1,) * 15), True)
        self.check(("web", (15, 15) + (2,) * 14), True)
        self.check(("web", (8,) * 2 + (1,) * 14), True)

    def exchanged(self, thing):
        """A joined and a firm thing with the same sums, by exchanges from this very thing on."""
        sums = thing.sums
        if not low_entries(sums, 1) and total_of(sums) >= needed_total(sums):
            joined = thing_of(sums, _joined(numbers_of(thing), count_ends(sums), most_between(sums)))
            self.assertEqual((joined.sums, joined_told(told_of(joined))), (sums, True))
        if not low_entries(sums, 2):
            firm = thing_of(sums, _firm(numbers_of(thing), count_ends(sums), most_between(sums)))
            self.assertEqual((firm.sums, firm_told(told_of(firm))), (sums, True))

    def test_exchanges_from_all_things_on(self):
        for sizes in SIZES:
            for told in all_things(*sizes):
                self.exchanged(thing_told(told))
        for ties in list(all_webs(6))[::5]:
            self.exchanged(Web(6, *ties))

    def test_exchanges_from_things_in_pieces(self):
        """Blocks side by side, with single ties or units between some of them."""
        random = Random(17)
        for _ in range(120):
            pieces = random.randint(2, 5)
            blocks = [random.randint(3, 16 // pieces) for _ in range(pieces)]
            starts = [sum(blocks[:at]) for at in range(pieces + 1)]
            ties = {(start + i, start + j) for start, many in zip(starts, blocks) for j in range(many) for i in range(j)
                    if j == i + 1 or j - i == many - 1 or random.random() < 0.3}
            for at in range(1, pieces):
                if random.random() < 0.7:
                    ties.add((random.randrange(starts[at - 1], starts[at]), random.randrange(starts[at], starts[at + 1])))
            order = random.sample(range(starts[-1]), starts[-1])
            self.exchanged(Web(starts[-1], *[tuple(sorted((order[i], order[j]))) for i, j in ties]))
            self.exchanged(self.table_in_pieces(random, random.randint(2, 6), random.choice((1, 1, 2, 9))))

    def table_in_pieces(self, random, pieces, cap):
        many = 2 * pieces
        cells = [[0] * many for _ in range(many)]
        for at in range(0, many, 2):
            for i, j in product((at, at + 1), repeat=2):
                cells[i][j] = random.randint(1, cap)
            if at and random.random() < 0.7:
                cells[random.randrange(at - 2, at)][random.randrange(at, at + 2)] = 1
        order, other = random.sample(range(many), many), random.sample(range(many), many)
        return Table.of(cap, tuple(tuple(cells[i][j] for j in other) for i in order))

    def test_webs_with_one_place(self):
        for sums, papers in ((("web", (0,)), [("made", Web(1))]), (("web", (1,)), [("bar", ("odd", 1)), ("bar", ("bar", (0,)))]),
                             (("web", (2,)), [("bar", ("bar", (0,)))])):
            self.assertIs(can_join(sums), sums == ("web", (0,)))
            self.assertIs(can_be_firm(sums), sums == ("web", (0,)))
            for make, judge in ((joined_paper, is_joined_paper), (firm_paper, is_firm_paper)):
                self.assertIn(make(sums), papers)
                for value in [("low", 0), ("few", 0), ("few", 1), ("bar", ("bar", ())), ("bar", ("odd", 1)),
                              ("bar", ("bar", (0,))), ("made", Web(1)), ("bar", ("odd", 2))]:
                    self.assertIs(judge(sums, value), value in papers)

    def test_sums_that_are_not_possible(self):
        for sums in NOT_POSSIBLE:
            self.check(sums, False)
        # Entries and totals are told of them, too.
        for sums, value in ((("web", (0, 3)), ("low", 0)), (("web", (1, 0)), ("few", 1)), (("web", (3, 0)), ("low", 1)),
                            (("table", 1, (0, 1), (5,)), ("low", ("line", 0))), (("table", 1, (1,), (2, 3)), ("few", 1)),
                            (("table", 1, (4,), (5, 0)), ("low", ("column", 1)))):
            self.assertIs(is_joined_paper(sums, value), True)
        # The total of a table is that of its lines.
        self.assertIs(is_joined_paper(("table", 1, (3,), (1, 1, 1, 1)), ("few", 3)), True)
        self.assertIs(is_joined_paper(("table", 1, (4,), (1, 1, 1)), ("few", 3)), False)
        self.assertIs(is_joined_paper(("table", 1, (2,), (1,)), ("few", 1)), False)
        self.assertIs(is_firm_paper(("web", (1, 3)), ("low", 0)), True)
        self.assertIs(is_firm_paper(("table", 1, (1,), (5,)), ("low", ("line", 0))), True)
        self.assertIs(is_firm_paper(("table", 1, (1,), (5,)), ("low", ("column", 0))), False)

    def test_wrong_arguments(self):
        for wrong in NO_BOTH_SUMS:
            for call in (can_join, joined_paper, can_be_firm, firm_paper):
                self.fails(InvalidSums, call, wrong)
            for call in (is_joined_paper, is_firm_paper):
                self.fails(InvalidSums, call, wrong, ("low", 0))
                self.fails(InvalidSums, call, wrong, None)

    def test_all_papers_are_judged(self):
        for sizes in (("table", 1, 2, 2), ("table", 2, 2, 1), ("table", 1, 2, 3), ("web", 2), ("web", 3), ("web", 4)):
            groups = by_sums(all_things(*sizes))
            things = [(told, thing_told(told)) for told in all_things(*sizes)][::2]
            for sums in small_sums(sizes, 3)[::7] + list(groups)[::4]:
                mine = groups.get(sums, [])
                bars = bars_of(sums)
                for judge, least, told_right in ((is_joined_paper, 1, joined_told), (is_firm_paper, 2, firm_told)):
                    for told, thing in things:
                        self.assertIs(judge(sums, ("made", thing)), told in mine and told_right(told))
                    for bar in bars + [("odd", 1), ("bar", ()), ("lines", ()), ("bar", (0,)), ("lines", (0,))]:
                        self.assertIs(judge(sums, ("bar", bar)), bar in bars)
                    for entry in list(range(-1, 5)) + list(product(("line", "column", "Line"), range(-1, 4))):
                        self.assertIs(judge(sums, ("low", entry)), entry in low_entries(sums, least))
                    for total in range(-1, 12):
                        right = judge is is_joined_paper and total == total_of(sums) < needed_total(sums)
                        self.assertIs(judge(sums, ("few", total)), right)

    def test_all_else_is_refused(self):
        for judge in (is_joined_paper, is_firm_paper):
            web = Web(3, (0, 1), (0, 2), (1, 2))
            self.assertIs(judge(web.sums, ("made", web)), True)
            for value in (["made", web], ("made",), ("made", web, web), ("Made", web), web, ("made", "web"), ("made", (web,)),
                          ("bar", "range"), ("bar", ("made", web)), ("low", 0), ("few", 6), ("bar", web), (web, "made")):
                self.assertIs(judge(web.sums, value), False)
            low = ("web", (0, 1, 1))
            self.assertIs(judge(low, ("low", 0)), True)
            for value in (("low", False), ("low", (0,)), ("low", "0"), ("low", -3), ("low", FORTY), ["low", 0], ("low", 3),
                          ("low", ("line", 0))):
                self.assertIs(judge(low, value), False)
            table = ("table", 1, (0, 1), (1, 0))
            for value, right in ((("line", 0), True), (("column", 1), True), (("column", True), False), (["line", 0], False),
                                 (("line", 0, 0), False), (("line",), False), (0, False), (("row", 0), False),
                                 (("line", -2), False), ((None, 0), False), (("line", (0,)), False), (((), ()), False)):
                self.assertIs(judge(table, ("low", value)), right)
        self.assertIs(is_joined_paper(("web", (1, 1, 1)), ("few", 3)), True)
        self.assertIs(is_joined_paper(("web", (1, 0)), ("few", True)), False)
        self.assertIs(is_joined_paper(("web", (1, 0)), ("few", 1)), True)
        for sums in (("web", (1, 1)), ("web", (0,)), ("web", (1, 0)), ("table", 1, (1,), (1,)), ("table", 2, (1, 0), (4,))):
            for judge in (is_joined_paper, is_firm_paper):
                self.judges_every_kind(judge, sums)
                for value in EVERY:
                    for word in ("made", "bar", "low", "few"):
                        self.assertIs(type(judge(sums, (word, value))), bool)
                        self.assertIs(judge(sums, (value, word)), False)
