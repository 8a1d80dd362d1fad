"""Texts [X.1]."""

from sumsalone.base.things import Table, Tournament, Web
from sumsalone.errors import (InvalidOperation, InvalidSums, InvalidTable, InvalidTournament, InvalidWeb, ParseError)
from sumsalone.text.texts import read, write
from tests.kinds import EVERY, FORTY, NO_SUMS, THIRTY, Case
from tests.plain import all_things
from tests.some import some_tables, some_tournaments, some_webs, thing_told

GREAT = str(FORTY)
SUMS = [("table", 1, (2, 1), (2, 1)), ("table", 9, (THIRTY,) * 12, (0,)), ("web", (0,)), ("web", (9, 0, 5)),
        ("web", (THIRTY,) * 16), ("tournament", (2, 1, 0)), ("tournament", (7,)), ("table", 1, (0,), (5, 5, 5))]
# Texts of right form ahead of the line, which has not its form; then the index of this line.
WRONG_LINES = [
    ("", 0), ("\n", 0), ("x", 0), ("sums", 0), ("sums ", 0), ("sums x 1", 0), ("table", 0), ("table ", 0), ("table 1 2", 0),
    ("table -1", 0), ("table +1", 0), ("table 01", 0), ("table  1", 0), ("table 1 ", 0), (" table 1", 0), ("Table 1", 0),
    ("table1", 0), ("tables 1", 0), ("table x", 0), ("table 1.0", 0), ("table 1\n", 1), ("table 1\n1\n", 2),
    ("table 1\n\n1", 1), ("table 1\n-", 1), ("table 1\n1 -", 1), ("table 1\n1\n1 x\nx", 2), ("table 1\n00", 1),
    ("table 1\n1  1", 1), ("table 1\n 1", 1), ("table 1\n1 ", 1), ("table " + GREAT + "9", 0), ("table 1\n1" + GREAT, 1),
    ("web", 0), ("web 1 1", 0), ("web -", 0), ("web 2\n0", 1), ("web 2\n0 1 2", 1), ("web 2\n0 1\n", 2), ("web 2\n-", 1),
    ("web 2\n0 01", 1), ("web 2\n0  1", 1), ("web 2\n0 1 ", 1), ("web 2\n0 +1", 1), ("web 3\n0 1\n1\n1 2", 2), ("web 02", 0),
    ("web\n2", 0), ("tournament 1", 0), ("tournament ", 0), ("tournament -", 0), ("tournament\n", 1), ("tournament\n--", 1),
    ("tournament\n- -", 1), ("tournament\n-\n", 2), ("tournament\n1 -\n-", 1), ("tournament\n01\n-", 1), ("tournament\n-1", 1),
    ("sums table", 0), ("sums table 1 1", 0), ("sums table 01", 0), ("sums table -1\n1\n1", 0), ("sums table 1\n\n1", 1),
    ("sums table 1\n1\n", 2), ("sums table 1\n1\n-", 2), ("sums table  1\n1\n1", 0), ("sums  table 1\n1\n1", 0),
    ("sums web ", 0), ("sums web 1 ", 0), ("sums web 1  1", 0), ("sums web 01", 0), ("sums web -1", 0), ("sums web 1\n", 1),
    ("sums web 1 1\n1\n-", 2), ("sums web 1 1\nx", 1), ("sums tournament ", 0), ("sums tournament -", 0),
    ("sums tournament 1\n-", 1), ("sums tournament 0\n", 1), ("sums tournament " + GREAT + "0", 0), ("sums web1", 0),
    ("SUMS WEB 1", 0), ("sums Web 1", 0), ("web 0x1", 0), ("web 1_0", 0), ("web 2\n0 1\n\n1 2", 2), ("-", 0), ("1 1", 0),
    ("x\nx\nx", 0), ("table 1\nx\nx", 1), ("table 1\n1\n1\n1\n1\n1\n1\n1\n1\n1\n1\n1\n1\n1\nx", 14)]
# Texts of right form that no thing has.
NO_THINGS_TOLD = {
    InvalidTable: ["table 1", "table 0\n0", "table 10\n1", "table 1\n2", "table 1\n1 0\n1", "table " + GREAT + "\n1",
                   "table 1\n" + "\n".join(["0"] * 13), "table 1\n" + " ".join(["0"] * 13), "table 9\n" + GREAT],
    InvalidWeb: ["web 0", "web 17", "web " + GREAT, "web 3\n1 0", "web 3\n1 1", "web 3\n0 3", "web 3\n1 2\n0 1",
                 "web 3\n0 1\n0 1", "web 1\n0 1", "web 3\n0 2\n0 1", "web 3\n0 " + GREAT],
    InvalidTournament: ["tournament", "tournament\n0", "tournament\n-\n-", "tournament\n1\n0", "tournament\n1 1\n-",
                        "tournament\n2 1\n2\n-", "tournament\n1", "tournament\n" + "\n".join(["-"] * 17),
                        "tournament\n" + GREAT],
    InvalidSums: ["sums web", "sums tournament", "sums table 1", "sums table 1\n1", "sums table 1\n1\n1\n1",
                  "sums table 0\n1\n1", "sums table 10\n1\n1", "sums web 1 1\n1 1", "sums tournament 1 0\n1",
                  "sums web " + GREAT, "sums web " + str(THIRTY + 1), "sums web " + " ".join(["0"] * 17),
                  "sums table 1\n" + " ".join(["0"] * 13) + "\n0", "sums table 1\n0\n" + " ".join(["0"] * 13),
                  "sums tournament " + " ".join(["0"] * 17), "sums table " + GREAT + "\n1\n1"]}


def text_told(told):
    """The text of a thing, line by line."""
    if told[0] == "table":
        lines = ["table " + str(told[1])] + [" ".join(map(str, line)) for line in told[2]]
    elif told[0] == "web":
        lines = ["web " + str(told[1])] + [str(i) + " " + str(j) for i, j in sorted(told[2])]
    else:
        lines = ["tournament"] + [" ".join(map(str, losers)) or "-" for losers in told[1]]
    return "\n".join(lines)


def sums_told(sums):
    if sums[0] == "table":
        return "sums table {}\n{}\n{}".format(sums[1], *[" ".join(map(str, row)) for row in sums[2:]])
    return "sums {} {}".format(sums[0], " ".join(map(str, sums[1])))


class Texts(Case):
    def there_and_back(self, thing, text):
        self.assertEqual(write(thing), text)
        self.assertEqual(read(text), thing)
        self.assertIs(type(read(text)), type(thing))

    def test_all_small_things(self):
        for sizes in (("table", 1, 2, 2), ("table", 2, 1, 3), ("table", 9, 1, 1), ("table", 3, 3, 1), ("web", 1), ("web", 2),
                      ("web", 4), ("tournament", 1), ("tournament", 2), ("tournament", 4)):
            for told in all_things(*sizes):
                self.there_and_back(thing_told(told), text_told(told))

    def test_all_sizes(self):
        for things in (some_tables(40), some_webs(16, 10), some_tournaments(16, 10)):
            for thing in things:
                self.assertEqual(read(write(thing)), thing)
                self.assertEqual(read(write(thing.sums)), thing.sums)
                self.assertEqual(write(thing.sums), sums_told(thing.sums))

    def test_sums(self):
        for sums in SUMS:
            self.there_and_back(sums, sums_told(sums))
        self.assertEqual(write(("tournament", (2, 1, 0))), "sums tournament 2 1 0")
        self.assertEqual(write(("table", 1, (2, 1), (3,))), "sums table 1\n2 1\n3")

    def test_ends(self):
        self.there_and_back(Web(1), "web 1")
        self.there_and_back(Tournament(()), "tournament\n-")
        self.there_and_back(Table(1, (0,)), "table 1\n0")
        self.there_and_back(Tournament((), (0,)), "tournament\n-\n0")
        self.there_and_back(Web(3, (1, 2), (0, 2)), "web 3\n0 2\n1 2")

    def test_lines_that_have_not_their_form(self):
        for text, line in WRONG_LINES:
            self.fails(ParseError, read, text, keeps=("line", line))

    def test_the_first_line_is_told(self):
        for text, line in WRONG_LINES:
            self.fails(ParseError, read, text + "\nx", keeps=("line", line))
            self.fails(ParseError, read, text + "\n\n1", keeps=("line", line))

    def test_forms_without_a_thing(self):
        for error, texts in NO_THINGS_TOLD.items():
            for text in texts:
                self.fails(error, read, text)
                self.fails(ParseError, read, text + "\n", keeps=("line", text.count("\n") + 1))

    def test_numbers_of_forty_digits(self):
        for text, error in (("web " + GREAT, InvalidWeb), ("sums table 1\n" + GREAT + "\n1", InvalidSums),
                            ("table 1\n0 " + GREAT, InvalidTable), ("tournament\n" + GREAT + "\n-", InvalidTournament)):
            self.fails(error, read, text)
            self.fails(ParseError, read, text.replace(GREAT, "1" + GREAT))
        self.assertEqual(read("sums web " + str(THIRTY)), ("web", (THIRTY,)))

    def test_no_things_and_no_texts(self):
        for value in EVERY:
            if not isinstance(value, str):
                self.fails(InvalidOperation, read, value)
            if not isinstance(value, (Table, Web, Tournament)) and not isinstance(value, tuple):
                self.fails(InvalidOperation, write, value)
        for value in NO_SUMS:
            if not isinstance(value, (Table, Web, Tournament)):
                self.fails(InvalidOperation, write, value)
        self.fails(InvalidOperation, write, "web 1")
        self.fails(InvalidOperation, write, (Web(1),))
        self.fails(InvalidOperation, read, b"web 1")
        for value in EVERY:
            if isinstance(value, str):
                self.fails(ParseError, read, value, keeps=("line", 0))
