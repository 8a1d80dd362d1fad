"""Each function and method of the interface: good arguments, and the errors of wrong ones, as the document tells them.

A parameter is a tuple of its name, of a good argument, of what tells a right one, and of the error of a wrong one; the
name of a parameter that is passed by keyword begins with `*`. The errors behind "then" stand at the end of a call.
"""

import re

from sumsalone.across.bridges import opposite_sums, table_of_sides, tournament_of_table, web_of_sides, web_of_table
from sumsalone.across.even import back_step, even_step, steps_between
from sumsalone.base.things import Table, Tournament, Web, is_sums, is_thing, sums_of
from sumsalone.base.words import is_name
from sumsalone.both.apart import apart_paper, first_cover, is_apart_paper, lessened, most_apart
from sumsalone.both.joined import (can_be_firm, can_join, firm_paper, is_firm, is_firm_paper, is_joined, is_joined_paper,
                                   joined_paper)
from sumsalone.both.parted import has_part, is_level, is_parted_paper, parted_paper, rest_of
from sumsalone.count.counts import count_things, each_thing, shape_counts
from sumsalone.errors import (InvalidCommand, InvalidFilling, InvalidNumber, InvalidOperation, InvalidSums, InvalidTable,
                              InvalidTournament, InvalidWeb, NothingToUndo, ParseError, Refused, TooMany, UnknownName)
from sumsalone.fill.fillings import (count_fillings, each_filling, entry_counts, is_filling, is_shape, shape_of,
                                     turned_shape)
from sumsalone.fill.insertion import Press, fillings_of, table_of
from sumsalone.house.bench import Bench
from sumsalone.roads.carried import (carried, count_moves, is_carrying, is_highest, is_move, is_raising, moved, raised,
                                     row_of)
from sumsalone.roads.exchanges import (count_exchanges, distance, each_exchange, exchange_road, is_exchange,
                                       is_exchange_road, is_nearer, is_split, nearer, split)
from sumsalone.rows.roads import after, arranged, fewest_units, is_arranged_alike, is_road, road, units
from sumsalone.rows.rows import Order, bar, excess, is_bar, is_row, is_under, prefix_sums, sorted_row
from sumsalone.rows.turned import filled_up, is_closed, is_less, least_within, moves_needed, turned
from sumsalone.sure.forced import (forced_paper, is_alone, is_forced_paper, is_possible, parts_of, state_of, states,
                                   with_less, with_more)
from sumsalone.tables.making import filled_table, greatest_row, has_table, is_table_paper, made_table, table_paper
from sumsalone.tables.placing import fewest_taken, is_most_paper, most_paper, most_units, nearest_sums
from sumsalone.text.shell import Shell
from sumsalone.text.texts import read, write
from sumsalone.webs.near import fewest_away, is_nearest, nearest, table_of_web, web_from
from sumsalone.webs.nested import is_nested_row, is_over, nested_rows, over, web_of_word, word_of
from sumsalone.webs.rows import (greatest_lack, has_web, is_web_paper, lack, left_after, partners, web_of, web_paper)
from sumsalone.wins.halves import halved, is_half_table, table_of_tournament
from sumsalone.wins.parts import (count_rings, is_ring_through, is_row_through, is_strong, parts_in, ring_through,
                                  rings_in, row_through, strong_parts)
from sumsalone.wins.scores import (greatest_deficit, has_tournament, is_score_paper, nearest_scores, score_paper,
                                   tournament_of)

OF_COMMANDS = [UnknownName, InvalidOperation, InvalidNumber, ParseError, InvalidSums, InvalidTable, InvalidWeb,
               InvalidTournament, TooMany]
GRID, PATH, RING = Table(1, (1, 1, 0), (1, 0, 1)), Web(4, (0, 1), (1, 2), (2, 3)), Tournament((1,), (2,), (0,))
FLAT = Table(1, (0, 1), (1, 0))
GRID_SUMS, PATH_SUMS, RING_SUMS = GRID.sums, PATH.sums, RING.sums


def first(call):
    """The call of a generator, and of its first thing."""
    def asked(*arguments):
        for thing in call(*arguments):
            return thing
        return None
    return asked


def whole(value):
    return type(value) is int


def within(least, most):
    return lambda value: whole(value) and least <= value <= most


def entry(value):
    return whole(value) and 0 <= value < 10 ** 30


def from_zero(value):
    return whole(value) and value >= 0


def row(value, most=64):
    return type(value) is tuple and 1 <= len(value) <= most and all(entry(part) for part in value)


def short_row(value):
    return row(value, 12)


def table_sums(value):
    return (type(value) is tuple and len(value) == 4 and type(value[0]) is str and value[0] == "table"
            and within(1, 9)(value[1]) and row(value[2], 12) and row(value[3], 12))


def web_sums(value):
    return (type(value) is tuple and len(value) == 2 and type(value[0]) is str and value[0] == "web"
            and row(value[1], 16))


def win_sums(value):
    return (type(value) is tuple and len(value) == 2 and type(value[0]) is str and value[0] == "tournament"
            and row(value[1], 16))


def any_sums(value):
    return table_sums(value) or web_sums(value) or win_sums(value)


def flat_sums(value):
    return any_sums(value) and (value[0] != "table" or value[1] == 1)


def both_sums(value):
    return table_sums(value) or web_sums(value)


def a_table(value):
    return isinstance(value, Table)


def a_web(value):
    return isinstance(value, Web)


def a_tournament(value):
    return isinstance(value, Tournament)


def a_thing(value):
    return isinstance(value, (Table, Web, Tournament))


def both(value):
    return isinstance(value, (Table, Web))


def a_boolean(value):
    return isinstance(value, bool)


def a_tuple(value):
    return type(value) is tuple


def anything(value):
    return True


def one_of(*values):
    """Just these values, told also by their types."""
    return lambda value: any(value == other and type(value) is type(other) and whole_within(value) for other in values)


def whole_within(value):
    return type(value) is not tuple or all(whole(part) or type(part) is tuple and whole_within(part) for part in value)


def ascending(most):
    return lambda value: (type(value) is tuple and all(within(0, most)(part) for part in value)
                          and all(part < later for part, later in zip(value, value[1:])))


def shape(value):
    return (type(value) is tuple and all(whole(part) and part > 0 for part in value) and sum(value) <= 42
            and list(value) == sorted(value, reverse=True))


def filling(value, most=8):
    if type(value) is not tuple or not all(type(part) is tuple and part for part in value):
        return False
    if not all(within(0, most - 1)(part) for line in value for part in line) or not shape(tuple(map(len, value))):
        return False
    return all(list(line) == sorted(line) for line in value) and all(
        one < other for line, lower in zip(value, value[1:]) for one, other in zip(line, lower))


def counts(value):
    return type(value) is tuple and len(value) <= 8 and all(within(0, 42)(part) for part in value)


def some_steps(value):
    return type(value) is tuple and all(
        type(step) is tuple and len(step) == 3 and within(0, 63)(step[0]) and within(0, 63)(step[1])
        and step[0] != step[1] and entry(step[2]) and step[2] > 0 for step in value)


def a_word(value):
    return type(value) is tuple and 1 <= len(value) <= 16 and all(within(0, 1)(part) for part in value) and value[0] == 0


def square(value):
    return a_table(value) and value.cap == 1 and len(value.lines) == len(value.lines[0]) and not any(
        line[at] for at, line in enumerate(value.lines))


def name(value):
    return type(value) is str and 1 <= len(value) <= 8 and all("a" <= letter <= "z" for letter in value)


def command(value):
    """Whether the value is a command by its words."""
    word, number = "([a-z]{1,8})", "(0|[1-9][0-9]{0,39})"
    forms = [f"new {word}\n(.|\n)*", f"(copy|under) {word} {word}", f"(drop|other|text|sums|alone) {word}",
             f"(turn|carry|state) {word} {number} {number}"]
    return type(value) is str and any(re.fullmatch(form, value) for form in forms)


def of_row(many):
    return lambda value: type(value) is tuple and len(value) == many and all(from_zero(part) for part in value)


def rows_of(length, total):
    return lambda value: row(value) and len(value) == length and sum(value) == total


ROW = ("row", (2, 1, 1), row, InvalidSums)
LINES, COLUMNS = ("lines", (2, 1), row, InvalidSums), ("columns", (2, 1), row, InvalidSums)
CAP = ("cap", 2, within(1, 9), InvalidNumber)
VALUE = ("value", None, anything, None)
DEGREES = ("degrees", (2, 2, 1, 1), row, InvalidSums)
SCORES = ("scores", (1, 1, 1), row, InvalidSums)
TABLE_SUMS = ("sums", GRID_SUMS, table_sums, InvalidSums)
SUMS = ("sums", GRID_SUMS, any_sums, InvalidSums)
FLAT_SUMS = ("sums", PATH_SUMS, flat_sums, InvalidSums)
BOTH_SUMS = ("sums", PATH_SUMS, both_sums, InvalidSums)
PLACE = ("place", (0, 1), one_of((0, 1), (0, 2), (0, 3), (1, 2), (1, 3), (2, 3)), InvalidOperation)
THING = ("thing", PATH, a_thing, InvalidOperation)
TABLE = ("table", FLAT, a_table, InvalidTable)
WEB = ("web", PATH, a_web, InvalidWeb)
TOURNAMENT = ("tournament", RING, a_tournament, InvalidTournament)
SHAPE = ("shape", (2, 1), shape, InvalidFilling)
FILLING = ("filling", ((0, 0), (1,)), filling, InvalidFilling)
I, J = ("i", 1, within(0, 3), InvalidNumber), ("j", 0, within(0, 3), InvalidNumber)
PAIR = [("one", PATH, a_thing, InvalidOperation), ("other", PATH, a_thing, InvalidOperation)]
ROWS = [("one", (2, 1), row, InvalidSums), ("other", (1, 2), row, InvalidSums)]
ROAD_ROWS = [("row", (3, 1), row, InvalidSums), ("lower", (2, 2), row, InvalidSums)]
STEP = [THING, ("first", 1, within(0, 3), InvalidNumber), ("second", 0, within(0, 3), InvalidNumber),
        ("*columns", False, lambda value: value is False, InvalidOperation)]
BACK = [THING, ("first", 0, within(0, 3), InvalidNumber), ("second", 1, within(0, 3), InvalidNumber), STEP[-1]]
SIDE = [("lines", 2, within(1, 6), InvalidNumber), ("columns", 2, within(1, 6), InvalidNumber)]
CELL = [("line", 0, within(0, 1), InvalidNumber), ("column", 0, within(0, 2), InvalidNumber)]
PLACES = [("one", 0, within(0, 3), InvalidNumber), ("other", 1, within(0, 3), InvalidNumber)]
PLAYERS = [("one", 0, within(0, 2), InvalidNumber), ("other", 1, within(0, 2), InvalidNumber)]
TURNED = [ROW, ("many", 3, within(1, 64), InvalidNumber),
          ("*cap", 1, lambda value: entry(value) and value > 0, InvalidNumber)]

# Functions, each with its parameters and the errors behind "then".
FUNCTIONS = [
    (is_name, [VALUE], []), (is_sums, [VALUE], []), (is_thing, [SUMS, VALUE], []), (sums_of, [THING], []),
    (is_row, [VALUE], []), (sorted_row, [ROW], []), (prefix_sums, [ROW], []),
    (excess, [ROW, ("number", 1, entry, InvalidNumber)], []), (is_under, ROWS, []), (bar, ROWS, [InvalidOperation]),
    (is_bar, ROWS + [VALUE], [InvalidOperation]),
    (Order, [("length", 2, within(1, 64), InvalidNumber), ("total", 3, entry, InvalidNumber)], []),
    (is_arranged_alike, ROWS, []), (arranged, [ROW, ("like", (1, 2, 3), row, InvalidSums)], [InvalidOperation]),
    (after, [("row", (3, 1), row, InvalidSums), ("road", ((0, 1, 1),), one_of((), ((0, 1, 1),)), InvalidOperation)],
     [InvalidOperation]),
    (units, [("road", (), some_steps, InvalidOperation)], []), (road, ROAD_ROWS, [InvalidOperation]),
    (is_road, ROAD_ROWS + [VALUE], []), (fewest_units, ROAD_ROWS, [InvalidOperation]),
    (turned, TURNED, [InvalidOperation]), (is_closed, TURNED, [InvalidOperation]),
    (moves_needed, ROWS, [InvalidOperation]), (least_within, [ROW, ("many", 1, entry, InvalidNumber)], []),
    (is_less, ROWS, []), (filled_up, ROWS, [InvalidOperation]),
    (greatest_row, [CAP, COLUMNS, ("many", 2, within(1, 64), InvalidNumber)], []),
    (filled_table, [CAP, ("columns", (2, 1), short_row, InvalidSums), ("many", 2, within(1, 12), InvalidNumber)],
     [InvalidOperation]),
    (has_table, [CAP, LINES, COLUMNS], []), (made_table, [TABLE_SUMS], []), (table_paper, [TABLE_SUMS], []),
    (is_table_paper, [TABLE_SUMS, VALUE], []), (most_units, [TABLE_SUMS], []), (most_paper, [TABLE_SUMS], []),
    (is_most_paper, [TABLE_SUMS, VALUE], []), (fewest_taken, [TABLE_SUMS], []), (nearest_sums, [TABLE_SUMS], []),
    (lack, [DEGREES, ("places", (0, 1), ascending(3), InvalidNumber)], [InvalidNumber]), (greatest_lack, [DEGREES], []),
    (has_web, [DEGREES], []), (web_paper, [DEGREES], [TooMany]), (is_web_paper, [DEGREES, VALUE], []),
    (partners, [DEGREES, ("place", 0, within(0, 3), InvalidNumber)], [InvalidOperation]),
    (left_after, [DEGREES, ("place", 0, within(0, 3), InvalidNumber)], [InvalidOperation]),
    (web_of, [DEGREES], [InvalidOperation, TooMany]), (web_of_word, [("word", (0, 1), a_word, InvalidOperation)], []),
    (word_of, [WEB], []), (is_nested_row, [DEGREES], []),
    (nested_rows, [("places", 4, within(1, 16), InvalidNumber), ("total", 6, from_zero, InvalidNumber)], []),
    (over, [DEGREES], [TooMany]), (is_over, [DEGREES, VALUE], []), (fewest_away, [DEGREES], []), (nearest, [DEGREES], []),
    (is_nearest, [DEGREES, VALUE], []), (table_of_web, [WEB], [TooMany]),
    (web_from, [("table", FLAT, square, InvalidTable)], [InvalidOperation]), (has_tournament, [SCORES], []),
    (greatest_deficit, [SCORES], []), (score_paper, [SCORES], [TooMany]), (is_score_paper, [SCORES, VALUE], []),
    (tournament_of, [SCORES], [InvalidOperation, TooMany]), (nearest_scores, [SCORES], [InvalidOperation]),
    (strong_parts, [SCORES], [InvalidOperation]), (is_strong, [SCORES], [InvalidOperation]),
    (count_rings, [SCORES], [InvalidOperation]), (parts_in, [TOURNAMENT], []), (rings_in, [TOURNAMENT], []),
    (row_through, [TOURNAMENT], []), (ring_through, [TOURNAMENT], [InvalidOperation]),
    (is_row_through, [TOURNAMENT, VALUE], []), (is_ring_through, [TOURNAMENT, VALUE], []),
    (table_of_tournament, [TOURNAMENT], [TooMany]), (is_half_table, [VALUE], []), (halved, [("table", Table(1, (0, 1), (0, 0)), a_table, InvalidTable)], [InvalidOperation]),
    (row_of, [THING], []), (count_moves, [THING, I, J], [InvalidOperation]), (moved, [THING, I, J], [InvalidOperation]),
    (is_move, [THING, I, J, VALUE], [InvalidOperation]),
    (carried, [THING, ("row", (1, 2, 2, 1), of_row(4), InvalidSums)], [InvalidOperation]),
    (is_carrying, [THING, ("row", (1, 2, 2, 1), of_row(4), InvalidSums), VALUE], []), (is_highest, [THING], []),
    (raised, [THING], []), (is_raising, [THING, VALUE], []), (distance, PAIR, [InvalidOperation]),
    (first(each_exchange), [THING], []), (count_exchanges, [THING], []), (is_exchange, [THING, VALUE], []),
    (nearer, PAIR, [InvalidOperation]), (is_nearer, PAIR + [VALUE], [InvalidOperation]),
    (split, PAIR, [InvalidOperation]), (is_split, PAIR + [VALUE], [InvalidOperation]),
    (exchange_road, PAIR + [("split", (), one_of(()), InvalidOperation)], [InvalidOperation]),
    (is_exchange_road, PAIR + [VALUE], [InvalidOperation]), (is_possible, [SUMS], []), (with_more, [FLAT_SUMS, PLACE], []),
    (with_less, [FLAT_SUMS, PLACE], []), (state_of, [FLAT_SUMS, PLACE], [InvalidOperation]),
    (states, [FLAT_SUMS], [InvalidOperation]), (forced_paper, [FLAT_SUMS, PLACE], [InvalidOperation]),
    (is_forced_paper, [FLAT_SUMS, PLACE, VALUE], [InvalidOperation]), (parts_of, [FLAT_SUMS], [InvalidOperation]),
    (is_alone, [FLAT_SUMS], [InvalidOperation]), (is_level, [VALUE], []),
    (rest_of, [BOTH_SUMS, ("share", ("web", (1,) * 4), both_sums, InvalidSums)], [InvalidOperation]),
    (has_part, [BOTH_SUMS, ("share", ("web", (1,) * 4), both_sums, InvalidSums)], [InvalidOperation]),
    (parted_paper, [BOTH_SUMS, ("share", ("web", (1,) * 4), both_sums, InvalidSums)], [InvalidOperation]),
    (is_parted_paper, [BOTH_SUMS, ("share", ("web", (1,) * 4), both_sums, InvalidSums), VALUE], [InvalidOperation]),
    (lessened, [BOTH_SUMS, ("many", 1, from_zero, InvalidNumber)], []), (most_apart, [BOTH_SUMS], [InvalidOperation]),
    (apart_paper, [BOTH_SUMS], [InvalidOperation]), (is_apart_paper, [BOTH_SUMS, VALUE], [InvalidOperation]),
    (first_cover, [("sums", GRID_SUMS, both_sums, InvalidSums)], [InvalidOperation]),
    (is_joined, [("thing", PATH, both, InvalidOperation)], []), (is_firm, [("thing", PATH, both, InvalidOperation)], []),
    (can_join, [BOTH_SUMS], []), (joined_paper, [BOTH_SUMS], []), (is_joined_paper, [BOTH_SUMS, VALUE], []),
    (can_be_firm, [BOTH_SUMS], []), (firm_paper, [BOTH_SUMS], []), (is_firm_paper, [BOTH_SUMS, VALUE], []),
    (is_shape, [VALUE], []), (turned_shape, [SHAPE], []), (is_filling, [VALUE], []), (shape_of, [FILLING], []),
    (entry_counts, [FILLING, ("many", 8, within(0, 8), InvalidNumber)], [InvalidOperation]),
    (count_fillings, [SHAPE, ("sums", (2, 1), counts, InvalidSums)], []),
    (first(each_filling), [SHAPE, ("sums", (2, 1), counts, InvalidSums)], []), (Press, SIDE, []),
    (fillings_of, [TABLE], [InvalidOperation, TooMany]), (Press.of, [TABLE], [InvalidOperation, TooMany]),
    (table_of, SIDE + [("left", ((0, 1),), lambda value: filling(value, 2), InvalidFilling),
                       ("right", ((0,), (1,)), lambda value: filling(value, 2), InvalidFilling)], [InvalidFilling]),
    (count_things, [SUMS], [TooMany]), (first(each_thing), [SUMS], [TooMany]), (shape_counts, [FLAT_SUMS], [TooMany]),
    (web_of_table, [TABLE], [InvalidOperation]),
    (tournament_of_table, [("table", Table(1, (0, 1), (0, 0)), a_table, InvalidTable)], [InvalidOperation]),
    (web_of_sides, [TABLE, ("*tied", False, a_boolean, InvalidOperation)], [InvalidOperation, TooMany]),
    (table_of_sides, [("web", Web(4, (0, 2)), a_web, InvalidWeb), ("lines", 2, within(1, 3), InvalidNumber),
                      ("*tied", False, a_boolean, InvalidOperation)], [InvalidOperation, TooMany]),
    (opposite_sums, [SUMS], [InvalidOperation]), (even_step, STEP, [InvalidOperation]),
    (back_step, BACK, [InvalidOperation]), (steps_between, STEP, [InvalidOperation]),
    (write, [("thing", PATH, lambda value: a_thing(value) or any_sums(value), InvalidOperation)], []),
    (read, [("text", "web 1", lambda value: type(value) is str, InvalidOperation)],
     [ParseError, InvalidSums, InvalidTable, InvalidWeb, InvalidTournament]),
    (Bench, [THING], []),
    (Shell.replayed, [("script", (), a_tuple, InvalidCommand)], [InvalidCommand])]


def a_press():
    press = Press(2, 3)
    press.put(0, 1)
    return press


def a_bench():
    bench = Bench(PATH)
    bench.promise("a", "entry", 0, 0, 3)
    bench.turn((0, 2))
    bench.turn((0, 3))
    bench.undo()
    return bench


def a_shell():
    shell = Shell()
    shell("new a\nweb 4\n0 1")
    shell("new b\ntournament\n-")
    return shell


# Methods: what makes the object, the name of the method, its parameters, and the errors behind "then".
METHODS = [
    (lambda: GRID, "cell", CELL, []),
    (lambda: GRID, "with_cell", CELL + [("number", 0, within(0, 1), InvalidNumber)], []),
    (lambda: PATH, "beside", [("place", 0, within(0, 3), InvalidNumber)], []), (lambda: PATH, "are_tied", PLACES, []),
    (lambda: PATH, "with_change", PLACES, [InvalidOperation]), (lambda: RING, "beats", PLAYERS, []),
    (lambda: RING, "with_change", PLAYERS, [InvalidOperation]),
    (lambda: Order(2, 3), "meet", [("rows", (2, 1), rows_of(2, 3), InvalidOperation)], []),
    (lambda: Order(2, 3), "join", [("rows", (2, 1), rows_of(2, 3), InvalidOperation)] * 3, []),
    (lambda: Order(2, 3), "covered", [("row", (2, 1), rows_of(2, 3), InvalidOperation)], []),
    (a_press, "put", [("line", 1, within(0, 1), InvalidNumber), ("column", 1, within(0, 2), InvalidNumber)],
     [InvalidOperation]),
    (a_press, "back", [("*many", 1, from_zero, InvalidNumber)], [NothingToUndo]),
    (a_bench, "promise", [("name", "b", lambda value: name(value) and value != "a", InvalidOperation),
                          ("word", "under", one_of("under"), InvalidOperation),
                          ("under", (8, 0, 0, 0), row, InvalidOperation)], [Refused]),
    (a_bench, "forget", [("name", "a", one_of("a"), UnknownName)], []),
    (a_bench, "__getitem__", [("name", "a", one_of("a"), UnknownName)], []),
    (a_bench, "put", [THING], [Refused]), (a_bench, "turn", [PLACE], [Refused]),
    (a_bench, "carry", [("one", 2, within(0, 3), InvalidNumber), ("other", 0, within(0, 3), InvalidNumber)],
     [InvalidOperation, Refused]),
    (a_bench, "undo", [("*many", 1, from_zero, InvalidNumber)], [NothingToUndo]),
    (a_bench, "redo", [("*many", 1, from_zero, InvalidNumber)], [NothingToUndo]),
    (a_shell, "run", [("command", "text a", command, InvalidCommand)], OF_COMMANDS),
    (a_shell, "__call__", [("command", "drop b", command, InvalidCommand)], OF_COMMANDS)]
# What tells of the state of an object all that can be read of it.
STATES = {
    Table: lambda one: (one.cap, one.lines), Web: lambda one: (one.places, one.ties), Tournament: lambda one: one.beaten,
    Order: lambda one: (one.length, one.total),
    Press: lambda one: (one.lines, one.columns, one.left, one.right, one.pairs),
    Bench: lambda one: (one.thing, one.promises, one.deeds, one.during(lambda same: (same.redo(), same.thing))),
    Shell: lambda one: (one.things, one.script)}
