"""Rows of webs (W.1), (W.3)."""

from itertools import product

from sumsalone.base.things import Table, Tournament, Web
from sumsalone.errors import InvalidNumber, InvalidOperation, InvalidSums, TooMany
from sumsalone.webs.rows import (greatest_lack, has_web, is_web_paper, lack, left_after, partners, web_of, web_paper)
from tests.kinds import EVERY, FORTY, NO_INTEGERS, NO_ROWS, THIRTY, Case
from tests.plain import all_webs, degrees_of, lack_of, rows_up_to, subsets
from tests.some import some_webs

LONG = [(1,) * 18, (17,) * 18, (0,) * 64, (63,) * 64, (63,) + (1,) * 63, (2,) * 63, (33,) * 40]


def partners_of(degrees, place):
    others = sorted((other for other in range(len(degrees)) if other != place), key=lambda x: (-degrees[x], x))
    return tuple(sorted(others[:degrees[place]]))


def web_by_numbers(degrees):
    left, ties = list(degrees), []
    for place in range(len(left)):
        for other in partners_of(left, place):
            ties.append((place, other))
            left[other] -= 1
        left[place] = 0
    return tuple(sorted(ties))


class Lacks(Case):
    def test_against_all_sets(self):
        for degrees in rows_up_to(1, 4) + rows_up_to(3, 4) + rows_up_to(4, 3) + [(6, 2, 2), (9, 9, 1, 1, 0, 3)]:
            lacks = {places: lack_of(degrees, places) for places in subsets(len(degrees))}
            self.assertEqual(greatest_lack(degrees), max(lacks.values()))
            for places, told in lacks.items():
                self.assertEqual(lack(degrees, places), told)

    def test_great_rows(self):
        self.assertEqual(lack((THIRTY,) * 64, tuple(range(64))), 64 * THIRTY - 64 * 63)
        self.assertEqual(greatest_lack((THIRTY,) * 64), 64 * THIRTY - 64 * 63)
        self.assertEqual(lack((THIRTY, 0, 5), (0,)), THIRTY - 1)
        self.assertEqual(lack((THIRTY, 0, 5), (1,)), -2)
        self.assertEqual((greatest_lack((0,)), greatest_lack((3,)), greatest_lack((1,) * 64)), (0, 3, 0))
        self.assertEqual(lack((5, 5), ()), 0)

    def test_wrong_arguments(self):
        for wrong in NO_ROWS:
            self.fails(InvalidSums, lack, wrong, ())
            self.fails(InvalidSums, greatest_lack, wrong)
        for wrong in [value for value in EVERY if value not in ((), (0,), (0, 1, 2))] + [
                (True,), (False,), (0, 0), (1, 0), (3,), (-1, 0), [0], (0, FORTY), ("0",), ((0,),)]:
            self.fails_by_number(lack, wrong, (1, 1, 1), wrong)
        self.first_decides(lack, [((1,), 3, InvalidSums), ((), (1,), InvalidNumber)])


class Possible(Case):
    def test_against_all_webs(self):
        for places in range(1, 6):
            found = {degrees_of(places, ties) for ties in all_webs(places)}
            for degrees in rows_up_to(places, places):
                self.assertIs(has_web(degrees), degrees in found)
                self.check(degrees, degrees in found)

    def check(self, degrees, is_there):
        kind, told = web_paper(degrees)
        if kind == "made":
            self.assertEqual((told.places, told.degrees), (len(degrees), degrees))
        elif kind == "odd":
            self.assertEqual((told, told % 2), (sum(degrees), 1))
        else:
            self.assertEqual(kind, "bar")
            self.assertGreater(lack_of(degrees, told), 0)
        self.assertIs(kind == "made", is_there)
        self.assertIs(is_web_paper(degrees, (kind, told)), True)
        if is_there:
            self.assertEqual(web_of(degrees).ties, web_by_numbers(degrees))
            for place in range(len(degrees)):
                self.check_place(degrees, place)
        else:
            self.fails(InvalidOperation, web_of, degrees)
            self.fails(InvalidOperation, partners, degrees, 0)
            self.fails(InvalidOperation, left_after, degrees, 0)

    def check_place(self, degrees, place):
        others = partners(degrees, place)
        self.assertEqual(others, partners_of(degrees, place))
        left = left_after(degrees, place)
        wanted = [entry - (other in others) for other, entry in enumerate(degrees)]
        wanted[place] = 0
        self.assertEqual(left, tuple(wanted))
        self.assertIs(has_web(left), True)

    def test_greater_webs(self):
        for places in (7, 12, 16):
            for web in some_webs(places, 25):
                self.assertIs(has_web(web.degrees), True)
                self.check(web.degrees, True)
                self.assertIs(is_web_paper(web.degrees, ("made", web)), True)
        self.check((15,) * 16, True)
        self.check((0,) * 16, True)
        self.check((16,) * 16, False)

    def test_long_rows(self):
        for degrees in LONG:
            self.assertIs(has_web(degrees), True)
            self.fails(TooMany, web_paper, degrees, keeps=("limit", 16))
            self.fails(TooMany, web_of, degrees, keeps=("limit", 16))
            for place in (0, 1, len(degrees) - 1):
                self.check_place(degrees, place)
        self.fails(TooMany, web_of, (0,) * 17, keeps=("limit", 16))
        self.assertEqual(web_of((0,) * 16), Web(16))

    def test_long_rows_that_are_not_possible(self):
        for degrees, kind in (((1,) * 63, "odd"), ((64,) * 64, "bar"), ((THIRTY,) * 64, "bar"), ((17,) * 16, "bar"),
                              ((THIRTY,) + (0,) * 63, "odd"), ((THIRTY - 1,) + (1,) * 63, "odd")):
            self.assertIs(has_web(degrees), False)
            told = web_paper(degrees)
            self.assertIs(is_web_paper(degrees, told), True)
            self.assertIn(told[0], (kind, "bar"))
            self.fails(InvalidOperation, web_of, degrees)
            self.fails(InvalidOperation, partners, degrees, 0)
            self.fails(InvalidOperation, left_after, degrees, 0)

    def test_what_is_not_true(self):
        self.assertIs(has_web((2, 2, 2, 2)), True)
        self.assertIs(has_web((4, 2, 1, 1)), False)
        self.assertIs(has_web((2, 2)), False)
        self.assertIs(has_web((3, 3, 1, 1)), False)

    def test_equal_entries_by_lower_numbers(self):
        self.assertEqual(partners((1, 1, 1, 1), 3), (0,))
        self.assertEqual(partners((1, 1, 2, 2, 2), 0), (2,))
        self.assertEqual(partners((2, 2, 2, 2, 2), 4), (0, 1))
        self.assertEqual(left_after((2, 2, 2, 2, 2), 4), (1, 1, 2, 2, 0))
        self.assertEqual(partners((0, 0), 1), ())


class Papers(Case):
    def test_all_webs_are_judged(self):
        for degrees in ((1, 1, 1, 1), (2, 2, 1, 1), (3, 1, 1, 1), (2, 2, 2, 2), (3, 3, 1, 1)):
            for ties in all_webs(4):
                right = degrees_of(4, ties) == degrees
                self.assertIs(is_web_paper(degrees, ("made", Web(4, *ties))), right)

    def test_all_bars_are_judged(self):
        for degrees in [(6, 2, 2), (3, 3, 1, 1), (0, 9, 9), (5,), (1, 1), (3, 3, 3, 3, 1)]:
            for places in subsets(len(degrees)):
                self.assertIs(is_web_paper(degrees, ("bar", places)), lack_of(degrees, places) > 0)

    def test_odd_totals_are_judged(self):
        self.assertIs(is_web_paper((1, 1, 1), ("odd", 3)), True)
        self.assertIs(is_web_paper((1, 0), ("odd", 1)), True)
        self.assertIs(is_web_paper((THIRTY, 0), ("odd", THIRTY)), True)
        self.assertIs(is_web_paper((THIRTY,) * 63, ("odd", 63 * THIRTY)), True)
        self.assertIs(is_web_paper((1, 1), ("odd", 2)), False)
        self.assertIs(is_web_paper((0, 0), ("odd", 0)), False)
        for told in (True, False, None, "1", (1,), [1], 3, -1, FORTY, ()):
            self.assertIs(is_web_paper((1, 0), ("odd", told)), False)
        self.assertIs(is_web_paper((3, 0), ("odd", 3)), True)
        self.assertIs(is_web_paper((3, 0), ("bar", (0,))), True)

    def test_papers_of_no_other_form(self):
        for told in ([0, 1], (1, 0), (0, 0), (False, True), (0, True), (4,), (-1, 0), ("0",), None, 0, {0: 1}, (FORTY,),
                     ((0, 1),), ()):
            self.assertIs(is_web_paper((3, 3, 1, 1), ("bar", told)), False)
        for value in (["bar", (0, 1)], ("bar", (0, 1), 1), ("bar",), ("Bar", (0, 1)), ((0, 1), "bar"), (0, 1), "bar",
                      ("made", None), ("made", Table(1, (1,))), ("made", Tournament(())), ("made", (1, 1))):
            self.assertIs(is_web_paper((3, 3, 1, 1), value), False)
        self.assertIs(is_web_paper((0,), ("made", Tournament(()))), False)
        self.assertIs(is_web_paper((0,), ("made", Web(1))), True)
        self.assertIs(is_web_paper((0,) * 17, ("made", Web(16))), False)
        for kind in ("Made", "make", "bar", "odd", "", "lines", None, 1, ("made",), ["made"], Web(2, (0, 1))):
            self.assertIs(is_web_paper((1, 1), (kind, Web(2, (0, 1)))), False)
        for degrees in ((1, 1), (3, 3, 1, 1), (1, 1, 1), (0,) * 17):
            self.judges_every_kind(is_web_paper, degrees)

    def test_wrong_arguments(self):
        for wrong in NO_ROWS:
            for call in (has_web, web_paper, web_of):
                self.fails(InvalidSums, call, wrong)
            for call in (partners, left_after):
                self.fails(InvalidSums, call, wrong, 0)
                self.fails(InvalidSums, call, wrong, None)
            self.fails(InvalidSums, is_web_paper, wrong, None)
            self.fails(InvalidSums, is_web_paper, wrong, ("odd", 1))
        for call in (partners, left_after):
            for wrong in NO_INTEGERS + [-1, 2, FORTY]:
                self.fails_by_number(call, wrong, (1, 1), wrong)
                self.fails_by_number(call, wrong, (9, 9), wrong)
            self.first_decides(call, [((1, 1), [1, 1], InvalidSums), (0, 2, InvalidNumber)], later=((1, 0), 0))

    def test_too_many_comes_last(self):
        for degrees in ((1,) * 17, (17,) * 17, (THIRTY,) * 18):
            self.fails(InvalidOperation, web_of, degrees)

    def test_all_pairs_of_kinds(self):
        for kind, value in product(("made", "bar", "odd", "lines", None), EVERY):
            if isinstance(value, Web):
                continue
            right = (kind, value) == ("bar", (0,)) and type(value[0]) is int
            self.assertIs(is_web_paper((2, 0), (kind, value)), right)
