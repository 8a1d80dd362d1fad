"""Forced places [7.1], [7.2], [0.9], [0.11]."""

from itertools import product

from sumsalone.base.things import Table, Tournament, Web
from sumsalone.errors import InvalidOperation, InvalidSums
from sumsalone.sure.forced import (forced_paper, is_alone, is_forced_paper, is_possible, parts_of, state_of, states,
                                   with_less, with_more)
from sumsalone.wins.parts import strong_parts
from tests.kinds import EVERY, FORTY, NO_SUMS, THIRTY, Case
from tests.plain import all_things, bars_of, by_sums, number_at, parts_of_things, places_of, rows_up_to
from tests.some import some_tables, some_tournaments, some_webs, thing_told
from tests.test_carried import told_of

SIZES = [("table", 1, 1, 1), ("table", 1, 1, 3), ("table", 1, 2, 2), ("table", 1, 3, 2), ("table", 1, 2, 3), ("web", 1),
         ("web", 2), ("web", 3), ("web", 4), ("tournament", 1), ("tournament", 2), ("tournament", 3), ("tournament", 4)]
MORE_SIZES = SIZES + [("table", 1, 3, 3), ("table", 1, 2, 4), ("web", 5), ("tournament", 5)]
GROUPS = {sizes: by_sums(all_things(*sizes)) for sizes in MORE_SIZES}
BARRED = [("table", 1, (2, 0), (1, 0)), ("table", 1, (3, 1), (2, 2)), ("web", (1, 1, 1)), ("web", (3, 3, 1, 1)),
          ("tournament", (0, 0, 3)), ("tournament", (1, 1)), ("table", 1, (THIRTY, 0), (1, 1)), ("web", (THIRTY, 1)),
          ("tournament", (THIRTY, 0, 0)), ("web", (2, 0)), ("tournament", (2, 2, 2))]
HIGH = [("table", cap, (1, 1), (1, 1)) for cap in range(2, 10)]
WRONG_PLACES = [value for value in EVERY if value != (1, 1)] + [
    (0, 2), (2, 0), (-1, 0), (0, -1), (0, True), (False, 1), (True, 1), (0, 1, 0), (0,), [0, 1], ("0", 1), (0, None),
    (FORTY, 0), (0, FORTY), ((0, 1),), (0, (1,)), (Web(2), 1)]


def sums_of_sizes(sizes):
    """All sums of things of these sizes, with entries up to one more than there can be."""
    if sizes[0] == "table":
        _, cap, lines, columns = sizes
        for pair in product(rows_up_to(lines, cap * columns + 1), rows_up_to(columns, cap * lines + 1)):
            yield ("table", cap) + pair
    else:
        for row in rows_up_to(sizes[1], sizes[1]):
            yield (sizes[0], row)


def shifted(sums, place, by):
    """The sums with so many units more at a place, by [7.1] and the limits of `with_more`."""
    i, j = place
    if sums[0] == "table":
        lines, columns = list(sums[2]), list(sums[3])
        lines[i] += by
        columns[j] += by
        right = 0 <= lines[i] <= len(columns) and 0 <= columns[j] <= len(lines)
        return ("table", 1, tuple(lines), tuple(columns)) if right else None
    row = list(sums[1])
    row[i] += by
    row[j] += by if sums[0] == "web" else -by
    return (sums[0], tuple(row)) if all(0 <= row[k] < len(row) for k in place) else None


def state_in(things, place):
    numbers = {number_at(thing, place) for thing in things}
    return "free" if len(numbers) > 1 else "full" if 1 in numbers else "empty"


class Possible(Case):
    def test_small_sums_of_all_kinds(self):
        for sizes in MORE_SIZES + [("table", 2, 2, 2), ("table", 3, 1, 2), ("table", 9, 1, 1), ("table", 3, 2, 1)]:
            found = by_sums(all_things(*sizes))
            for sums in sums_of_sizes(sizes) if sizes[1] != 5 else found:
                self.assertIs(is_possible(sums), sums in found)
        for sums in BARRED:
            self.assertIs(is_possible(sums), False)

    def test_great_sums(self):
        self.assertIs(is_possible(("table", 9, (108,) * 12, (108,) * 12)), True)
        self.assertIs(is_possible(("table", 9, (108,) * 12, (108,) * 11 + (107,))), False)
        self.assertIs(is_possible(("web", (15,) * 16)), True)
        self.assertIs(is_possible(("tournament", tuple(range(16)))), True)
        self.assertIs(is_possible(("web", (THIRTY,) * 16)), False)


class Shifted(Case):
    def test_small_sums(self):
        for sizes in SIZES:
            for sums in sums_of_sizes(sizes):
                for place in places_of(sums):
                    self.assertEqual(with_more(sums, place), shifted(sums, place, 1))
                    self.assertEqual(with_less(sums, place), shifted(sums, place, -1))

    def test_limits(self):
        self.assertEqual(with_more(("table", 1, (1, 0), (0, 0, 0)), (0, 2)), ("table", 1, (2, 0), (0, 0, 1)))
        self.assertIsNone(with_more(("table", 1, (3, 0), (0, 0, 0)), (0, 2)))
        self.assertIsNone(with_more(("table", 1, (0, 0), (0, 0, 2)), (0, 2)))
        self.assertEqual(with_more(("table", 1, (2, 0), (0, 0, 1)), (0, 2)), ("table", 1, (3, 0), (0, 0, 2)))
        self.assertIsNone(with_less(("web", (9, 9, 0)), (0, 1)))
        self.assertEqual(with_less(("web", (3, 1, 0)), (0, 1)), ("web", (2, 0, 0)))
        self.assertEqual(with_more(("tournament", (1, 1, 1)), (0, 2)), ("tournament", (2, 1, 0)))
        self.assertEqual(with_less(("tournament", (1, 1, 1)), (0, 2)), ("tournament", (0, 1, 2)))
        self.assertIsNone(with_more(("tournament", (2, 1, 0)), (1, 2)))
        # Only the two entries that change have to be in range.
        self.assertEqual(with_more(("web", (THIRTY, 0, 0)), (1, 2)), ("web", (THIRTY, 1, 1)))
        self.assertIsNone(with_less(("web", (THIRTY, 1, 1)), (0, 2)))

    def test_wrong_arguments(self):
        for call, rest in ((with_more, ()), (with_less, ()), (state_of, ()), (forced_paper, ()),
                           (is_forced_paper, (None,)), (is_forced_paper, (("full", "range"),))):
            for wrong in NO_SUMS + HIGH:
                self.fails(InvalidSums, call, wrong, (0, 1), *rest)
                self.fails(InvalidSums, call, wrong, None, *rest)
            for wrong in WRONG_PLACES:
                if wrong in ((0, 0), (0, 1), (1, 0), (1, 1)) and all(type(index) is int for index in wrong):
                    continue
                self.fails(InvalidOperation, call, ("table", 1, (1, 1), (1, 1)), wrong, *rest)
                self.fails(InvalidOperation, call, ("table", 1, (9, 1), (1, 1)), wrong, *rest)
            for kind, row in (("web", (1, 1)), ("tournament", (1, 0))):
                for wrong in WRONG_PLACES + [(1, 0), (1, 1), (0, 0)]:
                    if wrong != (0, 1) or type(wrong[1]) is bool or type(wrong[0]) is bool:
                        self.fails(InvalidOperation, call, (kind, row), wrong, *rest)
            for sums in (("web", (0,)), ("tournament", (0,))):
                self.fails(InvalidOperation, call, sums, (0, 0), *rest)
        for wrong in NO_SUMS:
            self.fails(InvalidSums, is_possible, wrong)
        for call in (states, parts_of, is_alone):
            for wrong in NO_SUMS + HIGH:
                self.fails(InvalidSums, call, wrong)
            for sums in BARRED:
                self.fails(InvalidOperation, call, sums)
        for sums in BARRED:
            for call, rest in ((state_of, ()), (forced_paper, ()), (is_forced_paper, (None,))):
                self.fails(InvalidOperation, call, sums, (0, 1), *rest)
        for call in (state_of, forced_paper):
            self.first_decides(call, [(("web", (1, 1)), ("web", ()), InvalidSums), ((0, 1), (1, 0), InvalidOperation)],
                               later=(("web", (1, 2)), (0, 1)))


class States(Case):
    def test_against_all_things(self):
        for sizes in MORE_SIZES:
            for sums, things in GROUPS[sizes].items():
                wanted = {place: state_in(things, place) for place in places_of(sums)}
                self.assertEqual(list(states(sums).items()), list(wanted.items()))
                for place, state in wanted.items():
                    self.assertEqual(state_of(sums, place), state)
                self.assertIs(is_alone(sums), len(things) == 1)

    def test_sums_that_are_not_possible(self):
        for sizes in SIZES:
            for sums in sums_of_sizes(sizes):
                if sums not in GROUPS[sizes]:
                    self.fails(InvalidOperation, states, sums)
                    self.fails(InvalidOperation, parts_of, sums)
                    self.fails(InvalidOperation, is_alone, sums)
                    for place in places_of(sums)[:2]:
                        self.fails(InvalidOperation, state_of, sums, place)

    def test_full_and_empty_by_possible_sums(self):
        # [0.11]: full in all things exactly if the sums with one unit more at it are not possible.
        for sizes in SIZES:
            for sums, things in GROUPS[sizes].items():
                for place in places_of(sums):
                    more, less = shifted(sums, place, 1), shifted(sums, place, -1)
                    self.assertIs(more not in GROUPS[sizes], state_in(things, place) == "full")
                    self.assertIs(less not in GROUPS[sizes], state_in(things, place) == "empty")

    def test_parts(self):
        for sizes in MORE_SIZES:
            for sums, things in GROUPS[sizes].items():
                self.assertEqual(parts_of(sums), parts_of_things(sums, things))
                if sums[0] == "tournament":
                    self.assertEqual(parts_of(sums), tuple(sorted(strong_parts(sums[1]))))
        self.assertEqual(parts_of(("table", 1, (2, 1), (2, 1))), (((), (0,)), ((), (1,)), ((0,), ()), ((1,), ())))
        self.assertEqual(parts_of(("table", 1, (3, 1, 2), (3, 1, 2))),
                         (((), (0,)), ((), (1,)), ((), (2,)), ((0,), ()), ((1,), ()), ((2,), ())))
        self.assertEqual(parts_of(("table", 1, (3, 2, 2), (3, 2, 2))), (((), (0,)), ((0,), ()), ((1, 2), (1, 2))))
        self.assertEqual(parts_of(("web", (0,))), ((0,),))
        self.assertEqual(parts_of(("tournament", (2, 0, 2, 2))), ((0, 2, 3), (1,)))

    def test_great_sums(self):
        for thing in list(some_tables(8, 12, [1])) + list(some_webs(16, 4)) + list(some_tournaments(16, 4)):
            told = states(thing.sums)
            self.assertEqual(list(told), places_of(thing.sums))
            for place, state in told.items():
                if state != "free":
                    self.assertEqual(number_at(told_of(thing), place), int(state == "full"))
            self.assertIs(is_alone(thing.sums), "free" not in told.values())
        great = ("table", 1, (6,) * 12, (6,) * 12)
        self.assertEqual(set(states(great).values()), {"free"})
        self.assertEqual(parts_of(great), ((tuple(range(12)), tuple(range(12))),))
        self.assertEqual(set(states(("table", 1, (12,) * 12, (12,) * 12)).values()), {"full"})
        self.assertEqual(set(states(("web", (0,) * 16)).values()), {"empty"})
        self.assertIs(is_alone(("tournament", tuple(range(16)))), True)


class Papers(Case):
    def check(self, sums, place, state):
        paper = forced_paper(sums, place)
        self.assertEqual(paper[0], state)
        self.assertIs(is_forced_paper(sums, place, paper), True)
        if state == "free":
            for thing, number in zip(paper[1:], (1, 0)):
                self.assertEqual(thing.sums, sums)
                self.assertEqual(number_at(told_of(thing), place), number)
            self.assertEqual(len(paper), 3)
            return
        self.assertEqual(len(paper), 2)
        other = shifted(sums, place, 1 if state == "full" else -1)
        if other is None:
            self.assertEqual(paper[1], "range")
        else:
            self.assertIn(paper[1], bars_of(other))

    def test_small_sums(self):
        for sizes in MORE_SIZES:
            for sums, things in GROUPS[sizes].items():
                for place in places_of(sums):
                    self.check(sums, place, state_in(things, place))

    def test_great_sums(self):
        for thing in list(some_tables(12, 12, [1])) + list(some_webs(16, 5)) + list(some_tournaments(16, 5)):
            told = states(thing.sums)
            for place in places_of(thing.sums)[::5]:
                if told[place] == "free":
                    self.check(thing.sums, place, "free")
                else:
                    paper = forced_paper(thing.sums, place)
                    self.assertEqual(paper[0], told[place])
                    self.assertIs(is_forced_paper(thing.sums, place, paper), True)

    def test_all_bars_are_judged(self):
        for sizes in SIZES:
            for sums, things in GROUPS[sizes].items():
                for place in places_of(sums):
                    for word, by in (("full", 1), ("empty", -1)):
                        other = shifted(sums, place, by)
                        self.assertIs(is_forced_paper(sums, place, (word, "range")), other is None)
                        right = [] if other is None else bars_of(other)
                        for bar in self.some_bars(sums):
                            self.assertIs(is_forced_paper(sums, place, (word, bar)), bar in right)
                        if other is not None and other in GROUPS[sizes]:
                            made = ("made", thing_told(GROUPS[sizes][other][0]))
                            self.assertIs(is_forced_paper(sums, place, (word, made)), False)

    def some_bars(self, sums):
        if sums[0] == "table":
            ends = {"lines": len(sums[2]), "columns": len(sums[3])}
        else:
            ends = {"bar": len(sums[1])}
        for kind, many in ends.items():
            for chosen in product((0, 1), repeat=many):
                yield kind, tuple(index for index in range(many) if chosen[index])
        yield "odd", sum(sums[-1])
        yield "odd", sum(sums[-1]) + 1

    def test_all_pairs_of_things_are_judged(self):
        for sizes in [("table", 1, 2, 2), ("table", 1, 2, 3), ("web", 3), ("web", 4), ("tournament", 3)]:
            every = [(told, thing_told(told)) for told in all_things(*sizes)][::5 if sizes in (("table", 1, 2, 3), ("web", 4)) else 1]
            for sums in list(GROUPS[sizes])[::3]:
                inside = [told for told, _ in every if told in GROUPS[sizes][sums]]
                for place in places_of(sums):
                    for (full, first), (empty, second) in product(every, repeat=2):
                        right = (full in inside and empty in inside and number_at(full, place) == 1
                                 and number_at(empty, place) == 0)
                        self.assertIs(is_forced_paper(sums, place, ("free", first, second)), right)

    def test_all_else_is_refused(self):
        one, other = Table(1, (1, 0), (0, 1)), Table(1, (0, 1), (1, 0))
        free = ("table", 1, (1, 1), (1, 1))
        self.assertIs(is_forced_paper(free, (0, 0), ("free", one, other)), True)
        self.assertIs(is_forced_paper(free, (0, 1), ("free", other, one)), True)
        for value in (("free", other, one), ["free", one, other], ("free", one), ("free", one, other, 1), ("free",),
                      ("full", one, other), ("empty", one, other), ("Free", one, other), (one, other), ("free", one, None),
                      ("free", None, other), ("free", one, one), ("free", (one, other)), ("full", "range"),
                      ("empty", "range"), ("full", None), (None, one, other), ("free", Web(2), other)):
            self.assertIs(is_forced_paper(free, (0, 0), value), False)
        full = ("table", 1, (2, 1), (2, 1))
        self.assertIs(is_forced_paper(full, (0, 0), ("full", "range")), True)
        for value in (("full", "Range"), ("full", ""), ("full", None), ("full",), ("full", "range", 1), ["full", "range"],
                      ("empty", "range"), ("range", "full"), "range", "full", ("full", ("range",)), (True, "range"),
                      ("full", ("lines", (0,))), ("full", "range", "range")):
            self.assertIs(is_forced_paper(full, (0, 0), value), False)
        for sums, word in ((full, "full"), (("web", (0, 0)), "empty"), (("tournament", (0, 1)), "empty")):
            place = (0, 0) if sums == full else (0, 1)
            self.assertIs(is_forced_paper(sums, place, (word, "range")), True)
            for other in ("free", "Full", "Empty", "", None, 0, (word,), [word], "full" if word == "empty" else "empty"):
                self.assertIs(is_forced_paper(sums, place, (other, "range")), False)
            for value in ((word, "range", 1), (word, "range", 1, 1), (word, "range", "range", "range")):
                self.assertIs(is_forced_paper(sums, place, value), False)
        for sums in (free, full, ("web", (1, 1)), ("tournament", (1, 0)), ("web", (2, 2, 1, 1))):
            self.judges_every_kind(is_forced_paper, sums, (0, 1))
            for value in EVERY:
                for word in ("full", "empty"):
                    self.assertIn(is_forced_paper(sums, (0, 1), (word, value)), (True, False))
                self.assertIs(is_forced_paper(sums, (0, 1), ("free", value, value)), False)

    def test_things_with_one_line_or_two_places(self):
        self.assertEqual(forced_paper(("table", 1, (1,), (1, 0)), (0, 0)), ("full", "range"))
        self.assertEqual(forced_paper(("table", 1, (1,), (1, 0)), (0, 1)), ("empty", "range"))
        self.assertEqual(forced_paper(("web", (1, 1)), (0, 1)), ("full", "range"))
        self.assertEqual(forced_paper(("web", (0, 0)), (0, 1)), ("empty", "range"))
        self.assertEqual(forced_paper(("tournament", (1, 0)), (0, 1)), ("full", "range"))
        self.assertEqual(forced_paper(("tournament", (0, 1)), (0, 1)), ("empty", "range"))
        self.assertEqual(states(("web", (0,))), {})
        self.assertIs(is_alone(("web", (0,))), True)
        self.assertIs(is_alone(Tournament(()).sums), True)
