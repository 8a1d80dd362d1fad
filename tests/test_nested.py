"""Nested webs [N.1], (W.2)."""

from itertools import combinations
from random import Random

from sumsalone.base.things import Table, Tournament, Web
from sumsalone.errors import InvalidNumber, InvalidOperation, InvalidSums, InvalidWeb, TooMany
from sumsalone.webs.nested import is_nested_row, is_over, nested_rows, over, web_of_word, word_of
from tests.kinds import EVERY, FORTY, NO_INTEGERS, NO_ROWS, NO_TUPLES, NO_WEBS, THIRTY, Case
from tests.plain import (all_webs, all_words, degrees_of, falling, is_possible_web, rows_up_to, ties_of_word, under,
                         words_of)
from tests.some import some_webs

NO_WORDS = NO_TUPLES + [(), (1,), (1, 0), (0, 2), (0, -1), (0, True), (False,), (0, False), (0,) * 17, (0, "1"), (None,),
                        ((0,),), (0, (1,)), (0, [1]), ("0", "1"), (0, FORTY), (0, Web(1)), (0, None)]


def nested_by_counts(row):
    """(W.2), read as it stands."""
    entries = falling(row)
    return all(sum(entry >= i for entry in entries) == entries[i - 1] + 1
               for i in range(1, len(entries) + 1) if entries[i - 1] >= i)


def rows_of_words(places):
    return {falling(degrees_of(places, ties_of_word(word))) for word in all_words(places)}


def renamed(web, random):
    names = list(range(web.places))
    random.shuffle(names)
    return Web(web.places, *[tuple(sorted((names[i], names[j]))) for i, j in web.ties])


class Words(Case):
    def test_web_of_word(self):
        for many in range(1, 8):
            for word in all_words(many):
                self.assertEqual(web_of_word(word), Web(many, *ties_of_word(word)))
        self.assertEqual(web_of_word((0,)), Web(1))
        self.assertEqual(web_of_word((0,) * 16), Web(16))
        self.assertEqual(web_of_word((0,) + (1,) * 15), Web(16, *combinations(range(16), 2)))
        self.assertEqual(web_of_word((0,) * 15 + (1,)).degrees, (1,) * 15 + (15,))

    def test_words_of_renamed_webs(self):
        random = Random(2)
        for many in range(1, 9):
            for word in all_words(many):
                self.assertEqual(word_of(renamed(web_of_word(word), random)), word)
        for _ in range(200):
            word = (0,) + tuple(random.randint(0, 1) for _ in range(15))
            self.assertEqual(word_of(renamed(web_of_word(word), random)), word)

    def test_words_of_all_small_webs(self):
        for places in range(1, 6):
            for ties in all_webs(places):
                word = word_of(Web(places, *ties))
                found = words_of(places, ties)
                # The first entry of an order of places can be read as 0 alone, so there is just one word.
                self.assertEqual(found, set() if word is None else {word})

    def test_wrong_words(self):
        for wrong in NO_WORDS:
            self.fails(InvalidOperation, web_of_word, wrong)
        for wrong in NO_WEBS:
            self.fails(InvalidWeb, word_of, wrong)


class Rows(Case):
    def test_is_nested_row(self):
        for places in range(1, 6):
            nested = rows_of_words(places)
            for degrees in rows_up_to(places, 5):
                self.assertIs(is_nested_row(degrees), falling(degrees) in nested)
                self.assertIs(is_nested_row(degrees), nested_by_counts(degrees))

    def test_long_rows(self):
        for degrees in ((0,) * 64, (63,) * 64, (1,) * 63 + (63,), (0,) * 60 + (3, 3, 3, 3)):
            self.assertIs(is_nested_row(degrees), True)
        for degrees in ((63,) * 63 + (62,), (1,) * 64, (THIRTY,), (THIRTY,) * 64, (64,) * 64, (1,) * 63 + (62,), (1,),
                        (0,) * 63 + (1,), (2, 2), (THIRTY, 0)):
            self.assertIs(is_nested_row(degrees), False)
        random = Random(5)
        for many in (17, 40, 64):
            word = (0,) + tuple(random.randint(0, 1) for _ in range(many - 1))
            row = list(degrees_of(many, ties_of_word(word)))
            random.shuffle(row)
            self.assertIs(is_nested_row(tuple(row)), True)
            self.assertTrue(nested_by_counts(row))

    def test_nested_rows(self):
        for places in range(1, 9):
            found = []
            for total in range(places * (places - 1) + 3):
                rows = nested_rows(places, total)
                self.assertIs(type(rows), tuple)
                self.assertEqual(list(rows), sorted(set(rows)))
                self.assertTrue(all(sum(row) == total for row in rows))
                found.extend(rows)
            self.assertEqual(len(found), 2 ** (places - 1))
            self.assertEqual(set(found), rows_of_words(places))

    def test_great_numbers_of_places(self):
        self.assertEqual(nested_rows(16, 240), ((15,) * 16,))
        self.assertEqual(nested_rows(16, 0), ((0,) * 16,))
        self.assertEqual(nested_rows(16, 238), ((15,) * 14 + (14, 14),))
        self.assertEqual(len(nested_rows(16, 120)), 722)
        for total in (242, 239, 1, THIRTY, THIRTY - 1, FORTY, FORTY - 1):
            self.assertEqual(nested_rows(16, total), ())
        self.assertEqual((nested_rows(1, 0), nested_rows(1, 2), nested_rows(2, 2)), (((0,),), (), ((1, 1),)))

    def test_wrong_arguments(self):
        for wrong in NO_ROWS:
            self.fails(InvalidSums, is_nested_row, wrong)
            self.fails(InvalidSums, over, wrong)
            self.fails(InvalidSums, is_over, wrong, (0,))
            self.fails(InvalidSums, is_over, wrong, None)
        for wrong in NO_INTEGERS + [0, -1, 17, FORTY]:
            self.fails_by_number(nested_rows, wrong, wrong, 0)
        for wrong in NO_INTEGERS + [-1, -2, -FORTY]:
            self.fails_by_number(nested_rows, wrong, 16, wrong)
        self.first_decides(nested_rows, [(3, 17, InvalidNumber), (2, -1, InvalidNumber)])


class Over(Case):
    def check(self, degrees):
        found = over(degrees)
        if not is_possible_web(degrees):
            self.assertIsNone(found)
            return
        self.assertTrue(nested_by_counts(found))
        self.assertEqual(found, falling(found))
        self.assertTrue(under(degrees, found))
        self.assertIs(is_over(degrees, found), True)

    def test_small_rows(self):
        for places in range(1, 6):
            for degrees in rows_up_to(places, 5):
                self.check(degrees)

    def test_all_values_are_judged(self):
        for places in (1, 3, 4):
            nested = rows_of_words(places)
            values = rows_up_to(places, places)
            for degrees in rows_up_to(places, 3):
                for value in values:
                    right = value in nested and under(degrees, value)
                    self.assertIs(is_over(degrees, value), right)

    def test_possible_exactly_if_under_a_nested_row(self):
        for places in range(1, 6):
            nested = rows_of_words(places)
            for degrees in rows_up_to(places, 4):
                self.assertIs(is_possible_web(degrees), any(under(degrees, row) for row in nested))

    def test_greater_webs(self):
        for places in (9, 13, 16):
            for web in some_webs(places, 15):
                self.check(web.degrees)
        for degrees in ((15,) * 16, (0,) * 16, (8,) * 16, (16,) * 16, (THIRTY,) * 16, (1,) * 15 + (15,), (7,) * 15):
            self.check(degrees)

    def test_long_rows(self):
        for degrees in ((1,) * 18, (0,) * 64, (63,) * 64, (2,) * 17):
            self.fails(TooMany, over, degrees, keeps=("limit", 16))
        for degrees in ((1,) * 17, (64,) * 64, (THIRTY,) * 64, (20,) * 19):
            self.assertIsNone(over(degrees))
        self.assertEqual(over((0,) * 16), (0,) * 16)

    def test_long_rows_are_judged(self):
        star, pairs = (63,) + (1,) * 63, (1,) * 64
        self.assertIs(is_over(star, star), True)
        self.assertIs(is_over(star[::-1], star), True)
        self.assertIs(is_over(star, star[::-1]), False)
        self.assertIs(is_over((63,) * 64, (63,) * 64), True)
        word = (0,) + (0, 1) * 31 + (0,)
        row = falling(degrees_of(64, ties_of_word(word)))
        mean = sum(row) // 64
        even = (mean + 1,) * (sum(row) - 64 * mean) + (mean,) * (64 - sum(row) + 64 * mean)
        self.assertIs(is_over(even, row), True)
        self.assertIs(is_over(row, even), False)
        self.assertIs(is_over(pairs, falling((32,) + (1,) * 32 + (0,) * 31)), True)
        self.assertIs(is_over(pairs, (32,) + (1,) * 31 + (0,) * 32), False)
        self.assertIs(is_over(pairs, pairs), False)
        self.assertIs(is_over((THIRTY,) * 64, (THIRTY,) * 64), False)

    def test_all_else_is_refused(self):
        for value in ((3, 1, 1), (3, 1, 1, 1, 0), [3, 1, 1, 1], (1, 3, 1, 1), (4, 1, 1, 0), (2, 2, 1, 1), (3, 3, 0, 0),
                      (3, True, 1, 1), (3, 1, True, 1), (3, 1, 1, 1.0), (2, 2, 2), ("3", 1, 1, 1), None):
            self.assertIs(is_over((2, 2, 1, 1), value), False)
        self.assertIs(is_over((2, 2, 1, 1), (3, 1, 1, 1)), True)
        self.assertIs(is_over((2, 2, 1, 1), (2, 2, 2, 0)), True)
        for wrong in NO_ROWS:
            self.assertIs(is_over((2, 2, 1, 1), wrong), False)
        for degrees in ((0,), (1, 1), (1, 1, 1), (3, 3, 1, 1)):
            self.judges_every_kind(is_over, degrees)
        right = [value for value in EVERY if is_over((0,), value)]
        self.assertEqual(right, [(0,)])

    def test_what_is_not_true(self):
        self.assertIs(is_over((2, 1, 1, 1, 1), (3, 1, 1, 1, 0)), True)
        self.assertIs(is_over((2, 1, 1, 1, 1), (2, 2, 2, 0, 0)), True)
        self.assertIs(is_nested_row((2, 1, 1, 0)), True)
        self.assertEqual(word_of(Web(4, (0, 1), (0, 2))), (0, 0, 1, 0))

    def test_other_things_are_no_webs(self):
        for wrong in (Table(1, (0,)), Tournament(()), (0,), ("web", (0,))):
            self.fails(InvalidWeb, word_of, wrong)
