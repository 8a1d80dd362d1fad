"""A bench [Y.1]."""

from itertools import product
from random import Random

from sumsalone.base.things import Table, Tournament, Web
from sumsalone.errors import InvalidNumber, InvalidOperation, NothingToUndo, Refused, UnknownName
from sumsalone.house.bench import Bench
from sumsalone.roads.carried import count_moves, is_move, moved
from tests.kinds import EVERY, FORTY, NO_INTEGERS, NO_ROWS, NO_SUMS, NO_THINGS, THIRTY, Case
from tests.plain import all_things, by_sums, number_at, places_of, row_of_told, under
from tests.some import some_tables, some_tournaments, some_webs, thing_told
from tests.test_carried import told_of

RING, STAIR = Tournament((1,), (2,), (0,)), Tournament((1, 2), (2,), ())
PATH, GRID = Web(4, (0, 1), (1, 2), (2, 3)), Table(1, (1, 1, 0), (1, 0, 1))
HIGH = Table(2, (2, 1), (0, 2))
SMALL = [("table", 1, 2, 2), ("table", 2, 2, 1), ("table", 1, 2, 3), ("table", 3, 1, 2), ("web", 1), ("web", 3), ("web", 4),
         ("tournament", 1), ("tournament", 3), ("tournament", 4)]
NO_NAMES = [value for value in EVERY if value not in ("a", "made", "lines", "bar", "odd", "table")
            or not isinstance(value, str)] + ["abcdefghi", "Ab", "a1", "a b", "a\n"]
NO_PROMISES = [(), ("sums",), ("under",), ("entry",), ("place",), ("sure",), ("sums", ("web", (0,)), 1), ("under", (1,), 1),
               ("sums", (1, 2)), ("sums", ["web", (0,)]), ("Sums", ("web", (0,))), ("under", ()), ("under", [1]),
               ("under", (1, -1)), ("under", (True,)), ("under", (THIRTY + 1,)), ("entry", 0, 1), ("entry", 0, 1, 2, 3),
               ("entry", -1, 0, 1), ("entry", 0, -1, 1), ("entry", 0, 0, -1), ("entry", True, 0, 1), ("entry", 0, 0, THIRTY + 1),
               ("entry", THIRTY + 1, 0, 0), ("entry", 0, THIRTY + 1, 0), ("entry", "0", 0, 0), ("entry", 0, None, 0),
               ("entry", (0, 0, 0)), ("place", (0, 1)), ("place", (0, 1), "free"), ("place", (0, 1), "Full"),
               ("place", (0, 1), True), ("place", [0, 1], "full"), ("place", (0, 1, 2), "full"), ("place", (0,), "full"),
               ("place", (0, -1), "full"), ("place", (False, 1), "full"), ("place", (0, THIRTY + 1), "full"),
               ("place", 0, 1, "full"), ("place", (0, "1"), "full"), ("sure", (0, 1), "free"), ("sure", (0, 1), None),
               ("sure", (0, 1)), ("sure", (0, 1), "full", 1), ("sure", None, "full"), (("sums", ("web", (0,))),),
               (None,), ("", (0, 1), "full"), ("free", (0, 1), "full")]


def is_full(thing, place):
    return number_at(told_of(thing), place) == (thing.cap if isinstance(thing, Table) else 1)


def is_true(thing, promise, equals):
    """Whether a promise is true; `equals` are all things with the same sums, as far as they are asked for."""
    told = told_of(thing)
    row = row_of_told(told)
    if promise[0] == "sums":
        return thing.sums == promise[1]
    if promise[0] == "under":
        return under(row, promise[1])
    if promise[0] == "entry":
        return promise[1] < len(row) and row[promise[1]] in range(promise[2], promise[3] + 1)
    if promise[1] not in places_of(thing.sums):
        return False
    if promise[0] == "place":
        return is_full(thing, promise[1]) if promise[2] == "full" else number_at(told, promise[1]) == 0
    if isinstance(thing, Table) and thing.cap > 1:
        return False
    return all(number_at(one, promise[1]) == (promise[2] == "full") for one in equals)


def turned(thing, place):
    if isinstance(thing, Table):
        return thing.with_cell(*place, 0 if is_full(thing, place) else thing.cap)
    return thing.with_change(*place)


class Plain:
    """A bench as a plain row of its states."""

    def __init__(self, thing):
        self.states = [(None, thing, {})]
        self.at = 0

    def add(self, deed, thing, promises):
        self.states = self.states[:self.at + 1] + [(deed, thing, promises)]
        self.at += 1

    def now(self):
        return self.states[self.at]

    def deeds(self):
        return tuple(deed for deed, _, _ in self.states[1:self.at + 1])


class BenchCase(Case):
    def same(self, bench, plain):
        _, thing, promises = plain.now()
        self.assertEqual((bench.thing, bench.promises, bench.deeds), (thing, promises, plain.deeds()))
        self.assertEqual((bench.sums, bench.row), (thing.sums, row_of_told(told_of(thing))))
        self.assertEqual((len(bench), list(bench.promises)), (len(promises), sorted(promises)))
        self.assertEqual(str(bench), f"bench with {thing}, {len(promises)} promises")

    def unchanged(self, bench, error, call, *arguments, keeps=None, **named):
        """The call is refused, and the bench is as before, also in what can be taken back and done again."""
        before = self.all_of(bench)
        self.fails(error, call, *arguments, keeps=keeps, **named)
        self.assertEqual(self.all_of(bench), before)

    def all_of(self, bench):
        """All states of a bench, found by taking back and doing again; it is as before behind this."""
        told = []
        with bench.trial():
            back = len(bench.deeds)
            bench.undo(many=back)
            while True:
                told.append((bench.thing, bench.promises, bench.deeds))
                try:
                    bench.redo()
                except NothingToUndo:
                    return back, told


class States(BenchCase):
    def some_call(self, bench, plain, things, random):
        """One random call of the bench and of its plain row."""
        _, thing, promises = plain.now()
        word = random.choice(["promise", "forget", "put", "turn", "turn", "carry", "carry", "undo", "redo"])
        if word in ("undo", "redo"):
            many = random.randint(0, 3)
            room = plain.at if word == "undo" else len(plain.states) - 1 - plain.at
            call = bench.undo if word == "undo" else bench.redo
            if many > room:
                return self.unchanged(bench, NothingToUndo, call, many=many, keeps=("many", many))
            plain.at += many if word == "redo" else -many
            return self.assertEqual(call(many=many), plain.at)
        if word == "promise":
            return self.some_promise(bench, plain, random)
        if word == "forget":
            name = random.choice(["a", "b", "c"])
            if name not in promises:
                return self.unchanged(bench, UnknownName, bench.forget, name, keeps=("name", name))
            self.assertIsNone(bench.forget(name))
            return plain.add("forget", thing, {one: promises[one] for one in promises if one != name})
        return self.some_change(bench, plain, things, word, random)

    def some_change(self, bench, plain, things, word, random):
        _, thing, promises = plain.now()
        if word == "put":
            arguments, other = (random.choice(things),), None
            other = arguments[0]
        elif word == "turn":
            places = places_of(thing.sums)
            if not places:
                return
            arguments = (random.choice(places),)
            other = turned(thing, arguments[0])
        else:
            row = row_of_told(told_of(thing))
            if len(row) < 2:
                return
            arguments = tuple(random.sample(range(len(row)), 2))
            if count_moves(thing, *arguments) == 0:
                return self.unchanged(bench, InvalidOperation, bench.carry, *arguments)
            other = moved(thing, *arguments)
        call = {"put": bench.put, "turn": bench.turn, "carry": bench.carry}[word]
        broken = [name for name, promise in promises.items() if not self.holds(other, promise)]
        if broken:
            return self.unchanged(bench, Refused, call, *arguments, keeps=("name", min(broken)))
        self.assertIsNone(call(*arguments))
        plain.add(word, other, promises)

    def holds(self, thing, promise):
        equals = self.groups.get(thing.sums, []) if promise[0] == "sure" else []
        return is_true(thing, promise, equals)

    def some_promise(self, bench, plain, random):
        _, thing, promises = plain.now()
        name = random.choice(["a", "b", "c"])
        row = row_of_told(told_of(thing))
        index = random.randrange(len(row) + 1)
        place = random.choice(places_of(thing.sums) + [(0, 1), (2, 2)])
        terms = random.choice([("sums", thing.sums), ("under", tuple(sorted(row))), ("under", (sum(row),) + (0,) * (len(row) - 1)),
                               ("entry", index, 0, random.randint(0, 3)), ("place", place, "full"), ("place", place, "empty"),
                               ("sure", place, "full"), ("sure", place, "empty")])
        if name in promises:
            return self.unchanged(bench, InvalidOperation, bench.promise, name, *terms)
        if not self.holds(thing, terms):
            return self.unchanged(bench, Refused, bench.promise, name, *terms, keeps=("name", name))
        self.assertIsNone(bench.promise(name, *terms))
        plain.add("promise", thing, dict(sorted({**promises, name: terms}.items())))

    def test_long_rows_of_calls(self):
        random = Random(12)
        for sizes in SMALL:
            every = all_things(*sizes)
            self.groups = by_sums(every)
            things = [thing_told(told) for told in random.sample(every, min(len(every), 30))]
            for _ in range(6):
                thing = random.choice(things)
                bench, plain = Bench(thing), Plain(thing)
                for _ in range(40):
                    self.some_call(bench, plain, things, random)
                    self.same(bench, plain)

    def test_things_of_other_kinds_and_sizes(self):
        bench = Bench(RING)
        for thing in (PATH, GRID, HIGH, Web(1), Web(16), Tournament(()), Table(9, *[(9,) * 12] * 12)):
            self.assertIsNone(bench.put(thing))
            self.assertEqual((bench.thing, bench.sums), (thing, thing.sums))
        self.assertEqual((bench.deeds, bench.undo(many=7)), (("put",) * 7, 0))
        self.assertEqual((bench.thing, bench.redo(many=2), bench.thing), (RING, 2, GRID))

    def test_a_new_call_ends_redoing(self):
        bench = Bench(PATH)
        bench.turn((0, 2))
        bench.turn((0, 3))
        self.assertEqual(bench.undo(), 1)
        self.unchanged(bench, InvalidOperation, bench.turn, (2, 0))
        self.unchanged(bench, Refused, bench.promise, "a", "entry", 0, 9, 9, keeps=("name", "a"))
        self.assertEqual(bench.redo(), 2)
        bench.undo(many=2)
        bench.promise("a", "under", (6, 0, 0, 0))
        self.fails(NothingToUndo, bench.redo, keeps=("many", 1))
        self.assertEqual((bench.redo(many=0), bench.undo(many=0), bench.deeds), (1, 1, ("promise",)))

    def test_turn(self):
        for sizes in SMALL:
            for told in all_things(*sizes)[::3]:
                thing = thing_told(told)
                for place in places_of(thing.sums):
                    bench = Bench(thing)
                    full = is_full(thing, place)
                    self.assertIsNone(bench.turn(place))
                    self.assertEqual(bench.thing, turned(thing, place))
                    self.assertIs(is_full(bench.thing, place), not full)
        bench = Bench(HIGH)
        for place, cells in (((0, 1), (2, 2)), ((0, 1), (2, 0)), ((0, 0), (0, 0)), ((0, 1), (0, 2))):
            bench.turn(place)
            self.assertEqual(bench.thing.lines[0], cells)

    def test_carry(self):
        for thing in (PATH, GRID, HIGH, STAIR):
            for one, other in product(range(len(row_of_told(told_of(thing)))), repeat=2):
                bench = Bench(thing)
                if one == other or count_moves(thing, one, other) == 0:
                    self.unchanged(bench, InvalidOperation, bench.carry, one, other)
                else:
                    self.assertIsNone(bench.carry(one, other))
                    self.assertIs(is_move(thing, one, other, bench.thing), True)
                    self.assertEqual(bench.thing, moved(thing, one, other))

    def test_greatest_things(self):
        for thing in list(some_tables(15)) + list(some_webs(16, 5)) + list(some_tournaments(16, 5)):
            bench = Bench(thing)
            bench.promise("sums", "sums", thing.sums)
            bench.promise("under", "under", row_of_told(told_of(thing)))
            self.assertEqual((len(bench), bench["sums"]), (2, ("sums", thing.sums)))
            for _ in range(60):
                bench.put(thing)
            self.assertEqual((len(bench.deeds), bench.undo(many=62), len(bench)), (62, 0, 0))


class Promises(BenchCase):
    def test_all_forms_true_and_untrue(self):
        for sizes in SMALL:
            for sums, group in list(by_sums(all_things(*sizes)).items())[::2]:
                thing = thing_told(group[-1])
                row = row_of_told(group[-1])
                places = places_of(sums) + [(0, 9), (9, 0), (1, 0), (2, 2), (0, THIRTY)]
                promises = [(word, place, state) for word in ("place", "sure") for place in places
                            for state in ("full", "empty")]
                promises += [("entry", index, least, most) for index in list(range(len(row) + 1)) + [THIRTY]
                             for least, most in ((0, 0), (0, THIRTY), (1, 2), (2, 1), (THIRTY, 0))]
                promises += [("sums", other) for other in (sums, ("web", row), ("tournament", row), ("table", 1, row, row),
                                                           sums[:-1] + (row + (0,),), ("web", (THIRTY,)))
                             if len(row) <= 11]
                promises += [("under", other) for other in (row, row[::-1], (sum(row),) + (0,) * (len(row) - 1), row + (0,),
                                                            (sum(row) + 1,) + (0,) * (len(row) - 1), (0,), (THIRTY,) * 64)]
                for promise in promises:
                    bench = Bench(thing)
                    if is_true(thing, promise, group):
                        self.assertIsNone(bench.promise("a", *promise))
                        self.assertEqual((bench["a"], bench.promises, bench.deeds), (promise, {"a": promise}, ("promise",)))
                    else:
                        self.unchanged(bench, Refused, bench.promise, "a", *promise, keeps=("name", "a"))

    def test_not_of_the_form(self):
        for thing in (RING, PATH, GRID, HIGH):
            bench = Bench(thing)
            for terms in NO_PROMISES:
                self.unchanged(bench, InvalidOperation, bench.promise, "a", *terms)
            for value in EVERY:
                for terms in ((value,), (value, (0, 1), "full"), (value, 0, 0, 0)):
                    self.fails(InvalidOperation, bench.promise, "a", *terms)
            for wrong in NO_SUMS:
                self.fails(InvalidOperation, bench.promise, "a", "sums", wrong)
            for wrong in NO_ROWS:
                self.fails(InvalidOperation, bench.promise, "a", "under", wrong)
            for wrong in NO_INTEGERS + [-1, -FORTY, FORTY, THIRTY + 1]:
                for at in range(3):
                    terms = ["entry", 0, 0, 0]
                    terms[at + 1] = wrong
                    self.fails(InvalidOperation, bench.promise, "a", *terms)
                for word in ("place", "sure"):
                    self.fails(InvalidOperation, bench.promise, "a", word, (0, wrong), "full")
                    self.fails(InvalidOperation, bench.promise, "a", word, (wrong, 0), "full")
            for wrong in EVERY:
                for word in ("place", "sure"):
                    self.fails(InvalidOperation, bench.promise, "a", word, (0, 1), wrong)
                    if not isinstance(wrong, tuple):
                        self.fails(InvalidOperation, bench.promise, "a", word, wrong, "full")
            self.assertEqual((len(bench), bench.deeds), (0, ()))

    def test_names(self):
        bench = Bench(RING)
        for wrong in NO_NAMES:
            self.unchanged(bench, InvalidOperation, bench.promise, wrong, "under", (2, 1, 0))
            self.unchanged(bench, UnknownName, bench.forget, wrong, keeps=("name", wrong))
            self.unchanged(bench, UnknownName, lambda name: bench[name], wrong, keeps=("name", wrong))
            self.assertIs(wrong in bench, False)
        for name in ("a", "zzzzzzzz", "under"):
            bench.promise(name, "under", (2, 1, 0))
            self.assertIs(name in bench, True)
            self.unchanged(bench, InvalidOperation, bench.promise, name, "entry", 0, 1, 1)
        self.assertEqual(list(bench.promises), ["a", "under", "zzzzzzzz"])
        self.fails(UnknownName, bench.forget, "b", keeps=("name", "b"))
        bench.forget("a")
        self.assertEqual((list(bench.promises), bench.undo(), list(bench.promises)), (["under", "zzzzzzzz"], 3,
                                                                                     ["a", "under", "zzzzzzzz"]))

    def test_names_and_forms_come_ahead_of_truth(self):
        bench = Bench(RING)
        bench.promise("a", "entry", 0, 1, 1)
        self.unchanged(bench, InvalidOperation, bench.promise, "a", "entry", 0, 9, 9)
        self.unchanged(bench, InvalidOperation, bench.promise, "A", "entry", 0, 9, 9)
        self.unchanged(bench, Refused, bench.promise, "b", "entry", 0, 9, 9, keeps=("name", "b"))

    def test_the_first_name_is_told(self):
        bench = Bench(RING)
        for name in ("m", "c", "x", "aa"):
            bench.promise(name, "entry", 0, 1, 1)
        bench.promise("a", "entry", 2, 1, 2)
        self.unchanged(bench, Refused, bench.turn, (0, 1), keeps=("name", "aa"))
        self.unchanged(bench, Refused, bench.put, Web(1), keeps=("name", "a"))
        self.unchanged(bench, Refused, bench.carry, 2, 0, keeps=("name", "a"))
        bench.forget("aa")
        self.unchanged(bench, Refused, bench.turn, (0, 1), keeps=("name", "c"))
        for name in ("c", "m", "x"):
            bench.forget(name)
        self.assertIsNone(bench.turn((0, 1)))

    def test_errors_of_arguments_come_ahead_of_promises(self):
        bench = Bench(GRID)
        bench.promise("a", "sums", GRID.sums)
        for wrong in NO_THINGS:
            self.unchanged(bench, InvalidOperation, bench.put, wrong)
        for wrong in EVERY + [(0, 3), (2, 0), (-1, 0), (0, -1), (0, True), (0, 0, 0), [0, 0], (0, FORTY)]:
            if wrong != (0, 1) and wrong != (1, 1) and wrong != (0, 0) or isinstance(wrong, tuple) and True in [
                    isinstance(part, bool) for part in wrong]:
                self.unchanged(bench, InvalidOperation, bench.turn, wrong)
        for wrong in NO_INTEGERS + [-1, 2, FORTY]:
            self.unchanged(bench, InvalidNumber, bench.carry, wrong, 9, keeps=("value", wrong))
            self.unchanged(bench, InvalidNumber, bench.carry, 0, wrong, keeps=("value", wrong))
        self.unchanged(bench, InvalidOperation, bench.carry, 1, 1)
        self.unchanged(bench, Refused, bench.carry, 0, 1, keeps=("name", "a"))
        for place in ((1, 0), (0, 0), (0, 4)):
            self.unchanged(Bench(PATH), InvalidOperation, Bench(PATH).turn, place)

    def test_taking_back_needs_no_promises(self):
        bench = Bench(RING)
        bench.turn((0, 1))
        bench.promise("a", "entry", 0, 0, 0)
        self.assertEqual((bench.undo(many=2), bench.thing, len(bench)), (0, RING, 0))
        self.assertEqual((bench.redo(many=2), bench.row, len(bench)), (2, (0, 2, 1), 1))


class Back(BenchCase):
    def test_wrong_numbers(self):
        bench = Bench(RING)
        bench.turn((0, 1))
        for call in (bench.undo, bench.redo):
            for wrong in NO_INTEGERS + [-1, -FORTY]:
                self.unchanged(bench, InvalidNumber, call, many=wrong, keeps=("value", wrong))
            for many in (2, THIRTY, FORTY):
                self.unchanged(bench, NothingToUndo, call, many=many, keeps=("many", many))
        self.unchanged(bench, NothingToUndo, bench.redo, keeps=("many", 1))
        self.assertEqual(bench.undo(), 0)
        self.unchanged(bench, NothingToUndo, bench.undo, keeps=("many", 1))


class Blocks(BenchCase):
    def started(self):
        bench = Bench(PATH)
        bench.turn((0, 2))
        bench.promise("a", "entry", 0, 0, 3)
        bench.turn((0, 3))
        bench.undo()
        return bench

    def test_a_block_leaves_the_bench_as_it_was(self):
        bench = self.started()
        before = self.all_of(bench)
        with bench.trial() as same:
            self.assertIs(same, bench)
            same.put(RING)
            same.forget("a")
            same.turn((0, 1))
            self.assertEqual((bench.thing, bench.deeds), (RING.with_change(0, 1), ("turn", "promise", "put", "forget", "turn")))
        self.assertEqual(self.all_of(bench), before)
        self.assertEqual((bench.redo(), bench.row), (3, (3, 2, 3, 2)))

    def test_calls_taken_back_in_a_block(self):
        bench = self.started()
        before = self.all_of(bench)
        with bench.trial():
            self.assertEqual(bench.undo(many=2), 0)
            bench.turn((1, 3))
            self.fails(NothingToUndo, bench.redo, many=1)
        self.assertEqual(self.all_of(bench), before)
        with bench.trial():
            self.assertEqual(bench.redo(), 3)
        self.assertEqual(self.all_of(bench), before)

    def test_errors_go_on(self):
        bench = self.started()
        before = self.all_of(bench)
        for error in (ZeroDivisionError, KeyError, InvalidOperation, StopIteration, KeyboardInterrupt):
            with self.assertRaises(error):
                with bench.trial():
                    bench.put(RING)
                    raise error("told")
            self.assertEqual(self.all_of(bench), before)
        with self.assertRaises(Refused):
            with bench.trial():
                bench.turn((0, 3))
                bench.put(Table(9, (9,)))
        self.assertEqual(self.all_of(bench), before)

    def test_blocks_within_blocks(self):
        bench = self.started()
        before = self.all_of(bench)
        with bench.trial():
            bench.turn((1, 3))
            inner = self.all_of(bench)
            with self.assertRaises(LookupError):
                with bench.trial():
                    bench.undo(many=3)
                    with bench.trial() as same:
                        same.put(GRID)
                    self.assertEqual(bench.thing, PATH)
                    bench.undo(many=1)
            self.assertEqual(self.all_of(bench), inner)
            bench.turn((1, 3))
        self.assertEqual(self.all_of(bench), before)

    def test_a_block_that_is_entered_twice(self):
        bench = self.started()
        block = bench.trial()
        bench.turn((1, 3))
        for _ in range(2):
            # It is the entering that counts, not the call of `trial`.
            before = self.all_of(bench)
            with block as same:
                same.turn((0, 1))
                inner = self.all_of(bench)
                with block:
                    same.put(RING)
                    same.undo(many=4)
                self.assertEqual(self.all_of(bench), inner)
            self.assertEqual(self.all_of(bench), before)
            bench.turn((2, 3))

    def test_left_by_return_and_break(self):
        bench = self.started()
        before = self.all_of(bench)

        def leave():
            for _ in range(3):
                with bench.trial():
                    bench.turn((0, 1))
                    break
            with bench.trial():
                bench.put(RING)
                return bench.row
        self.assertEqual(leave(), (1, 1, 1))
        self.assertEqual(self.all_of(bench), before)

    def test_during(self):
        bench = self.started()
        before = self.all_of(bench)

        def call(same):
            self.assertIs(same, bench)
            same.put(RING)
            same.forget("a")
            return same.row, same.during(lambda inner: inner.undo(many=4)), same.deeds
        self.assertEqual(bench.during(call), ((1, 1, 1), 0, ("turn", "promise", "put", "forget")))
        self.assertEqual(self.all_of(bench), before)
        for error in (ZeroDivisionError, KeyboardInterrupt, Refused):
            def fail(same, error=error):
                same.put(RING)
                raise error("told")
            with self.assertRaises(error):
                bench.during(fail)
            self.assertEqual(self.all_of(bench), before)
        self.assertIsNone(bench.during(lambda same: same.turn((0, 1))))
        self.assertEqual(self.all_of(bench), before)

    def test_twins(self):
        bench = self.started()
        twin = bench.twin()
        self.assertEqual((self.all_of(twin), twin == bench, twin is bench), (self.all_of(bench), True, False))
        before = self.all_of(bench)
        twin.redo()
        twin.forget("a")
        self.assertEqual(self.all_of(bench), before)
        bench.turn((0, 1))
        self.assertEqual(twin.deeds, ("turn", "promise", "turn", "forget"))
        with bench.trial():
            other = bench.twin()
            bench.put(RING)
            other.turn((1, 3))
            kept = self.all_of(other)
        self.assertEqual(self.all_of(other), kept)
        self.assertEqual(other.undo(many=1), 3)


class Values(BenchCase):
    def test_comparison(self):
        bench = Bench(RING)
        bench.promise("a", "entry", 0, 1, 1)
        same = Bench(STAIR)
        same.put(RING)
        same.promise("b", "under", (2, 1, 0))
        same.promise("a", "entry", 0, 1, 1)
        same.forget("b")
        other = Bench(RING)
        other.promise("a", "entry", 0, 1, 2)
        named = Bench(RING)
        named.promise("b", "entry", 0, 1, 1)
        turned_about = Bench(RING.opposite())
        turned_about.promise("a", "entry", 0, 1, 1)
        self.assert_compares(bench, same, [Bench(RING), other, named, turned_about, RING] + EVERY)

    def test_no_thing(self):
        for wrong in NO_THINGS:
            self.fails(InvalidOperation, Bench, wrong)

    def test_no_iterating(self):
        bench = Bench(RING)
        bench.promise("a", "entry", 0, 1, 1)
        self.assert_not_iterable(bench)
        for value in EVERY:
            self.assertIs(value in bench, isinstance(value, str) and value == "a")

    def test_gives_no_access(self):
        bench = Bench(GRID)
        bench.promise("a", "entry", 0, 1, 2)
        for promises in (bench.promises, bench.promises):
            self.assertEqual(promises, {"a": ("entry", 0, 1, 2)})
            promises["b"] = ("sums", GRID.sums)
            del promises["a"]
        self.assertEqual((bench.promises, len(bench)), ({"a": ("entry", 0, 1, 2)}, 1))
        for value in (bench.deeds, bench.sums, bench.row, bench["a"]):
            self.assertIs(type(value), tuple)
        for name in ("thing", "sums", "row", "promises", "deeds"):
            with self.assertRaises(AttributeError):
                setattr(bench, name, None)

    def test_words(self):
        self.assertEqual(str(Bench(GRID)), "bench with table of 2 lines, 3 columns, cap 1, 0 promises")
        self.assertEqual(str(Bench(PATH)), "bench with web of 4 places, 3 ties, 0 promises")
