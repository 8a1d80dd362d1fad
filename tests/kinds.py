"""Values of every kind that may be passed, and short ways to tell of errors."""

import unittest
from itertools import product

from sumsalone.base.things import Table, Tournament, Web
from sumsalone.errors import InvalidNumber, InvalidSums
from sumsalone.fill.insertion import Press
from sumsalone.house.bench import Bench
from sumsalone.rows.rows import Order
from sumsalone.text.shell import Shell

FORTY = 10 ** 40 - 1
THIRTY = 10 ** 30 - 1


def nested(deep, inner, wrap):
    value = inner
    for _ in range(deep):
        value = wrap(value)
    return value


INTEGERS = [0, 1, 2, 3, 11, 12, 63, 64, 65, THIRTY, THIRTY + 1, FORTY, -1, -2, -THIRTY, -FORTY]
BOOLEANS = [True, False]
STRINGS = ["", "a", "A", "1", "made", "lines", "bar", "odd", "table", "~ !%{}'\"\\", "\n", "a\nb"]
TUPLES = [(), (0,), (1, 1), (0, 1, 2), (True,), (0, True), (None,), ("a",), (-1,), (FORTY,), ((),), ((0, 1),), ([],),
          ({},), (0, 1, "x"), ("made", None), ("lines", (0,)), ("odd", 1), ("web", (0, 0)), ("table", 1, (1,), (1,)),
          ("tournament", (0,)), ("made", [1]), ((0, 1, 1),), ([0, 1, 1],), ("web", [1, 1]), ("columns", {0: 1})]
LISTS = [[], [0], [1, 1], [(0, 1)], [[]], [None], ["made", 1], [True]]
DICTS = [{}, {0: 1}, {"a": []}, {(0, 1): {}}, {None: True}]
DEEP = [nested(20, 0, lambda x: (x,)), nested(20, 0, lambda x: [x]), nested(20, 0, lambda x: {0: x}),
        nested(10, 0, lambda x: ([x],))]
OBJECTS = [Table(1, (0, 1)), Table(2, (2,)), Web(1), Web(2, (0, 1)), Web(3), Tournament(()), Tournament((1,), ()),
           Order(2, 2), InvalidSums("no"), InvalidNumber(3), ("made", Table(1, (1,))), (Web(2), ()), [Web(1)],
           {0: Order(1, 0)}, Press(6, 5), Bench(Web(2)), Bench(Tournament(())).trial(), Shell(), (Press(5, 6), Shell()),
           [Bench(Table(3, (3,)))]]
EVERY = [None] + INTEGERS + BOOLEANS + STRINGS + TUPLES + LISTS + DICTS + DEEP + OBJECTS

NO_INTEGERS = [value for value in EVERY if type(value) is not int]
NO_TABLES = [value for value in EVERY if not isinstance(value, Table)]
NO_WEBS = [value for value in EVERY if not isinstance(value, Web)]
NO_TOURNAMENTS = [value for value in EVERY if not isinstance(value, Tournament)]
NO_THINGS = [value for value in NO_TABLES if not isinstance(value, (Web, Tournament))]
NO_TUPLES = [value for value in EVERY if not isinstance(value, tuple)]
NO_ROWS = NO_TUPLES + [(), (-1,), (1, -1), (True,), (0, False), (None,), ("a",), (1, "1"), (THIRTY + 1,), (0, FORTY),
                       ((1,),), ([1],), ({},), (0,) * 65, (Web(1),), (1, None), (1, 1, [])]
NO_TABLE_SUMS = [
    (), ("table",), ("table", 1, (1,)), ("table", 1, (1,), (1,), ()), ("table", (1,), (1,)), ["table", 1, (1,), (1,)],
    ("Table", 1, (1,), (1,)), ("table", 0, (1,), (1,)), ("table", 10, (1,), (1,)), ("table", True, (1,), (1,)),
    ("table", None, (1,), (1,)), ("table", (1,), (1,), (1,)), ("table", 1, (), (1,)), ("table", 1, (1,), ()),
    ("table", 1, [1], (1,)), ("table", 1, (1,), [1]), ("table", 1, (True,), (1,)), ("table", 1, (1,), (-1,)),
    ("table", 1, (0,) * 13, (1,)), ("table", 1, (1,), (0,) * 13), ("table", 1, (THIRTY + 1,), (1,)),
    ("table", "1", (1,), (1,)), (True, 1, (1,), (1,)), (None,), ((),), (Table(1, (1,)),), Table(1, (1,)),
    ("table", 1, Table(1, (1,)), (1,)), ("table", -1, (1,), (1,)), ("table", FORTY, (1,), (1,))]
NO_SUMS = NO_TUPLES + NO_TABLE_SUMS + [
    ("web",), ("web", ()), ("web", [1, 1]), ("web", (0,) * 17), ("web", (True, 1)), ("web", (-1,)), ("web", 3),
    ("web", (1, 1), (1, 1)), ("web", THIRTY), ("web", (THIRTY + 1,)), ("web", ((1,),)), ("tournament",),
    ("tournament", ()), ("tournament", (0,) * 17), ("tournament", (False,)), ("tournament", [0]), ("tournament", 0),
    ("tournament", (0,), 1), ("tie", (1, 1)), ("", (1, 1)), ("webs", (1, 1)), (["web"], (1, 1)), ({}, (1, 1)),
    (Web(2), (1, 1)), ("web", Web(2)), (0, (1, 1))]

# Values that are nearly of some form: papers, places, words, fillings, commands and texts.
NO_FORMS = [
    ("made", Web(4, (0, 1), (1, 2), (2, 3))), ("made", Web(1), Web(1)), ("bar", ()), ("bar", (0, 0)), ("odd", True),
    ("odd", 3), ("low", 0), ("low", ("line", 0)), ("few", 0), ("whole", ("bar", (0,))), ("rest", "range"), ("range",),
    ("full", "range"), ("empty", ("odd", 1)), ("free", Web(1), Web(2)), ("first", Web(4)), ("second", Web(4)),
    (Web(4), (), "range"), (Web(4), ((0, 1),), ("bar", ())), ((0, 1), (2, 3)), ((0, 1, 1),), ((0, 1, 1), (1, 0, 1)),
    ((0, 1, 2, 3),), ((0, 1, 3, 2), (0,)), (Web(4), Web(4)), (Web(4), None), ((0, 0), (1,)), ((1, 0), (1,)), ((0,), (0,)),
    ((7,),), ((8,),), (0, 1, 0), (1, 0), (0, 2), ("entry", 0, 0, 1), ("under", (1, 1)), "new a\nweb 1", "new z\nx", "web 1",
    "sums web 1 1", "table 1\n0 1", "tournament\n-", "drop z", "text b", (Table(1, (1, 0)), (0,)), (Table(1, (0,)), ()),
    [("made", Web(1))], {"made": Web(1)}, ("made", [Web(1)]), ((Web(1),),), 42, 43, 7, 8, 9, 16, 17, 20, 21, 6]


class Case(unittest.TestCase):
    def fails(self, error, call, *arguments, keeps=None, **named):
        """The call raises just this error; `keeps` is a pair of an attribute and of what it holds."""
        with self.assertRaises(error) as caught:
            call(*arguments, **named)
        self.assertIs(type(caught.exception), error)
        if keeps is not None:
            kept = getattr(caught.exception, keeps[0])
            self.assertIs(type(kept), type(keeps[1]))
            self.assertEqual(kept, keeps[1])

    def fails_by_number(self, call, wrong, *arguments, **named):
        self.fails(InvalidNumber, call, *arguments, keeps=("value", wrong), **named)

    def first_decides(self, call, parameters, later=None):
        """Each choice of wrong arguments raises the error of the first one.

        A parameter is a triple of a good argument, of a wrong one and of the error; `later` is a good argument that
        brings an error behind "then", for each of the parameters.
        """
        for wrong in product((False, True), repeat=len(parameters)):
            if True not in wrong:
                continue
            chosen = [part[1] if bad else part[0] for part, bad in zip(parameters, wrong)]
            first = parameters[wrong.index(True)]
            keeps = ("value", first[1]) if first[2] is InvalidNumber else None
            self.fails(first[2], call, *chosen, keeps=keeps)
            if later is not None:
                chosen = [part[1] if bad else good for part, bad, good in zip(parameters, wrong, later)]
                self.fails(first[2], call, *chosen, keeps=keeps)

    def judges_every_kind(self, judge, *ahead):
        """The judge answers True or False for values of every kind."""
        for value in EVERY:
            self.assertIn(judge(*ahead, value), (True, False))
            self.assertIs(type(judge(*ahead, value)), bool)

    def assert_not_iterable(self, thing):
        for run in (iter, list, tuple, sorted, dict, lambda x: [*x], lambda x: [y for y in x]):
            with self.assertRaises(TypeError):
                run(thing)

    def assert_compares(self, thing, same, others):
        """`==` and `!=` are opposite, for equal things and for values of every kind."""
        self.assertIs(thing == same, True)
        self.assertIs(thing != same, False)
        for value in others:
            self.assertIs(thing == value, False)
            self.assertIs(thing != value, True)
            self.assertIs(value == thing, False)
            self.assertIs(value != thing, True)
