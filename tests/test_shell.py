"""A shell [Z.1]."""

from random import Random

from sumsalone.base.things import Table, Tournament, Web
from sumsalone.errors import (InvalidCommand, InvalidNumber, InvalidOperation, InvalidSums, InvalidTable,
                              InvalidTournament, InvalidWeb, ParseError, TooMany, UnknownName)
from sumsalone.house.bench import Bench
from sumsalone.rows.rows import is_under
from sumsalone.sure.forced import is_alone, state_of
from sumsalone.text.shell import MAX_THINGS, Shell
from sumsalone.text.texts import write
from tests.kinds import EVERY, FORTY, Case
from tests.plain import places_of, row_of_told
from tests.some import some_tables, some_tournaments, some_webs
from tests.test_carried import told_of
from tests.test_texts import NO_THINGS_TOLD, SUMS, WRONG_LINES

PATH, RING, GRID = Web(4, (0, 1), (1, 2), (2, 3)), Tournament((1,), (2,), (0,)), Table(1, (1, 1, 0), (1, 0, 1))
HIGH = Table(2, (2, 1), (0, 2))
RIGHT = ["copy a e", "drop a", "turn a 0 1", "carry a 1 0", "other a", "text a", "sums a", "state a 0 1", "alone a",
         "under a b"]
NO_COMMANDS = ["", " ", "\n", "a", "new", "new a", "new a b\nweb 1", "new\nweb 1", "new A\nweb 1", "new a \nweb 1",
               "new  a\nweb 1", " new a\nweb 1", "new abcdefghi\nweb 1", "new a1\nweb 1", "new \nweb 1", "New a\nweb 1",
               "copy a", "copy a b c", "copy a B", "copy  a b", "copy a b ", "copy a  b", "copy a b\n", "copy a b\nweb 1",
               "drop", "drop a b", "drop a ", " drop a", "drop a\n", "drop A", "drop 1", "Drop a", "DROP a", "drop\na",
               "turn a", "turn a 0", "turn a 0 1 2", "turn a 0  1", "turn a 00 1", "turn a 0 01", "turn a -1 0", "turn a +1 0",
               "turn a 0 x", "turn a x 0", "turn 0 1", "turn a 0 1\n", "turn a 0 1 ", "turn a (0, 1)", "turn a 0,1",
               "turn a 0 1.0", "turn a b 0", "turn a 1" + "0" * 40 + " 0", "turn a 0 1" + "0" * 40, "turn a\n0 1",
               "carry a", "carry a 0", "carry a 0 1 2", "carry a 0 -1", "carry a 0 0 1", "carry a 0 1\n", "carry A 0 1",
               "other", "other a b", "other a\n", "Other a", "text", "text a b", "text a\n", "text a\nx", "sums", "sums a b",
               "sums a\n", "sums web 1", "state a", "state a 0", "state a 0 1 2", "state a 0 1\n", "state a 0 -0", "alone",
               "alone a b", "alone a\n", "alone  a", "under a", "under a b c", "under a b\n", "under a  b", "under a B",
               "under a b a", "web 1", "undo", "put a b", "names", "help", "run drop a", "copy a 1", "copy 1 a"]


class ShellCase(Case):
    def started(self):
        shell = Shell()
        for name, thing in (("a", PATH), ("b", RING), ("c", GRID), ("d", HIGH)):
            shell.run("new " + name + "\n" + write(thing))
        return shell

    def unchanged(self, shell, error, command, keeps=None):
        before = (shell.things, shell.names, shell.script, len(shell))
        self.fails(error, shell.run, command, keeps=keeps)
        self.fails(error, shell, command, keeps=keeps)
        self.assertEqual((shell.things, shell.names, shell.script, len(shell)), before)


class Commands(ShellCase):
    def test_new(self):
        shell = Shell()
        for at, thing in enumerate(list(some_tables(4)) + list(some_webs(16, 2)) + list(some_tournaments(16, 2))):
            name = "abcdefgh"[:at + 1]
            self.assertEqual(shell.run("new " + name + "\n" + write(thing)), str(thing))
            self.assertEqual(shell.things[name], thing)
        self.assertEqual(len(shell), 8)

    def test_copy_and_drop(self):
        shell = self.started()
        self.assertIsNone(shell("copy a x"))
        self.assertEqual(shell.things, {"a": PATH, "b": RING, "c": GRID, "d": HIGH, "x": PATH})
        shell("turn x 0 3")
        self.assertEqual((shell.things["a"], shell.things["x"]), (PATH, PATH.with_change(0, 3)))
        self.assertIsNone(shell("drop a"))
        self.assertEqual((shell.names, len(shell), "a" in shell), (("b", "c", "d", "x"), 4, False))
        self.assertIsNone(shell("copy x a"))
        self.assertEqual(shell.names, ("a", "b", "c", "d", "x"))

    def test_turn_and_carry_as_a_bench_does(self):
        for name, thing in (("a", PATH), ("b", RING), ("c", GRID), ("d", HIGH)):
            for i in range(5):
                for j in range(5):
                    for word in ("turn", "carry"):
                        shell, bench = self.started(), Bench(thing)
                        command = f"{word} {name} {i} {j}"
                        try:
                            bench.turn((i, j)) if word == "turn" else bench.carry(i, j)
                        except InvalidNumber as error:
                            self.unchanged(shell, InvalidNumber, command, keeps=("value", error.value))
                        except InvalidOperation:
                            self.unchanged(shell, InvalidOperation, command)
                        else:
                            self.assertEqual(shell(command), write(bench.thing))
                            self.assertEqual(shell.things[name], bench.thing)

    def test_other(self):
        shell = self.started()
        for name, thing in list(shell.things.items()):
            self.assertEqual(shell("other " + name), write(thing.opposite()))
            self.assertEqual(shell.things[name], thing.opposite())
            self.assertEqual(shell.script[-1], "other " + name)

    def test_questions(self):
        shell = self.started()
        things = shell.things
        for name, thing in things.items():
            self.assertEqual(shell("text " + name), write(thing))
            self.assertEqual(shell("sums " + name), write(thing.sums))
            for other, another in things.items():
                self.assertIs(shell(f"under {name} {other}"),
                              is_under(row_of_told(told_of(thing)), row_of_told(told_of(another))))
            if thing != HIGH:
                self.assertIs(shell("alone " + name), is_alone(thing.sums))
                for i, j in places_of(thing.sums):
                    self.assertEqual(shell(f"state {name} {i} {j}"), state_of(thing.sums, (i, j)))
        self.assertEqual(things, shell.things)
        self.assertEqual(len(shell.script), 4)

    def test_under_of_things_of_one_kind(self):
        shell = Shell()
        shell("new a\ntournament\n1 2\n2\n-")
        shell("new b\ntournament\n1\n2\n0")
        self.assertEqual([shell("under b a"), shell("under a b"), shell("under a a")], [True, False, True])

    def test_errors_of_what_is_called(self):
        shell = self.started()
        for command, error in (("state d 0 0", InvalidSums), ("alone d", InvalidSums), ("state a 1 0", InvalidOperation),
                               ("state a 0 9", InvalidOperation), ("turn a 1 0", InvalidOperation), ("turn c 2 0", InvalidOperation),
                               ("carry a 1 1", InvalidOperation), ("carry a 0 1", InvalidOperation), ("state b 0 0", InvalidOperation),
                               ("turn a 0 0", InvalidOperation)):
            self.unchanged(shell, error, command)
        self.unchanged(shell, InvalidNumber, "carry a 4 9", keeps=("value", 4))
        self.unchanged(shell, InvalidNumber, "carry a 0 " + str(FORTY), keeps=("value", FORTY))
        self.unchanged(shell, InvalidOperation, "turn a " + str(FORTY) + " 0")

    def test_no_commands(self):
        shell = self.started()
        for value in NO_COMMANDS:
            self.unchanged(shell, InvalidCommand, value)
            self.unchanged(Shell(), InvalidCommand, value)
        for value in EVERY:
            self.unchanged(shell, InvalidCommand, value)

    def test_words_left_out_doubled_or_in_other_letters(self):
        for command in RIGHT:
            self.started().run(command)
            words = command.split(" ")
            for at, word in enumerate(words):
                changed = [words[:at] + words[at + 1:], words[:at] + [word, word] + words[at + 1:],
                           words[:at] + ["", word] + words[at + 1:], words[:at] + [word.upper() + "A"] + words[at + 1:],
                           words[:at] + [word + "."] + words[at + 1:]]
                for some in changed:
                    self.unchanged(self.started(), InvalidCommand, " ".join(some))
            for value in (command + "\n", command + "\nweb 1", "\n" + command, command + " ", " " + command, command + " a",
                          command + " 0", command.replace(" ", "\n", 1), command.upper(), command.title()):
                self.unchanged(self.started(), InvalidCommand, value)


class New(ShellCase):
    def test_lines_of_the_text_alone(self):
        shell = self.started()
        for text, line in WRONG_LINES:
            self.unchanged(shell, ParseError, "new x\n" + text, keeps=("line", line))
        self.unchanged(shell, ParseError, "new x\n", keeps=("line", 0))
        self.unchanged(shell, ParseError, "new x\n\nweb 1", keeps=("line", 0))
        self.unchanged(shell, InvalidCommand, "new x")

    def test_texts_without_a_thing(self):
        shell = self.started()
        for error, texts in NO_THINGS_TOLD.items():
            for text in texts:
                self.unchanged(shell, error, "new x\n" + text)
        self.assertEqual(set(NO_THINGS_TOLD), {InvalidTable, InvalidWeb, InvalidTournament, InvalidSums})

    def test_texts_of_sums(self):
        shell = self.started()
        for sums in SUMS:
            self.unchanged(shell, InvalidOperation, "new x\n" + write(sums))

    def test_a_thing_that_is_there(self):
        shell = self.started()
        for text in ("web 1", "", "x", "web 0", "sums web", "sums web 0"):
            self.unchanged(shell, InvalidOperation, "new a\n" + text)
        self.unchanged(shell, InvalidOperation, "copy a b")
        self.unchanged(shell, InvalidOperation, "copy a a")


class Order(ShellCase):
    def test_the_first_name_that_is_not_there(self):
        shell = self.started()
        for command, name in (("copy x y", "x"), ("copy x a", "x"), ("copy x x", "x"), ("drop x", "x"), ("turn x 0 0", "x"),
                              ("carry x 9 9", "x"), ("other x", "x"), ("text x", "x"), ("sums x", "x"), ("state x 9 9", "x"),
                              ("alone x", "x"), ("under x y", "x"), ("under a y", "y"), ("under y a", "y"), ("under x x", "x")):
            self.unchanged(shell, UnknownName, command, keeps=("name", name))
            self.unchanged(shell, InvalidCommand, command + " ")

    def test_too_many_comes_last(self):
        shell = self.started()
        for name in "efgh":
            shell("copy a " + name)
        self.assertEqual((len(shell), MAX_THINGS), (8, 8))
        self.unchanged(shell, TooMany, "new x\nweb 1", keeps=("limit", 8))
        self.unchanged(shell, TooMany, "copy a x", keeps=("limit", 8))
        self.unchanged(shell, UnknownName, "copy y x", keeps=("name", "y"))
        self.unchanged(shell, InvalidOperation, "copy a b")
        self.unchanged(shell, InvalidOperation, "new b\nweb 1")
        self.unchanged(shell, ParseError, "new x\nweb 01", keeps=("line", 0))
        self.unchanged(shell, InvalidWeb, "new x\nweb 0")
        self.unchanged(shell, InvalidSums, "new x\nsums web")
        self.unchanged(shell, InvalidOperation, "new x\nsums web 0")
        self.assertEqual(shell("turn h 0 3").split("\n")[0], "web 4")
        shell("drop h")
        self.assertEqual(shell("new x\nweb 1"), "web of 1 places, 0 ties")


class Scripts(ShellCase):
    def some_commands(self, random, many):
        names = ["a", "b", "c", "xy"]
        for _ in range(many):
            name, other = random.choice(names), random.choice(names)
            i, j = random.randrange(4), random.randrange(4)
            yield random.choice(["new " + name + "\n" + write(random.choice([PATH, RING, GRID, HIGH])), f"copy {name} {other}",
                                 f"drop {name}", f"turn {name} {i} {j}", f"carry {name} {i} {j}", f"other {name}",
                                 f"text {name}", f"sums {name}", f"state {name} {i} {j}", f"alone {name}",
                                 f"under {name} {other}", f"turn {name}", "new " + name + "\nweb"])

    def test_replayed(self):
        random = Random(21)
        for _ in range(30):
            shell, kept, told = Shell(), [], []
            for command in self.some_commands(random, 60):
                before = shell.things
                try:
                    shell.run(command)
                except (InvalidCommand, UnknownName, InvalidOperation, InvalidNumber, InvalidSums, ParseError):
                    self.assertEqual(shell.things, before)
                else:
                    told.append(command)
                    if command.split()[0] in ("new", "copy", "drop", "turn", "carry", "other"):
                        kept.append(command)
                    else:
                        self.assertEqual(shell.things, before)
                self.assertEqual(shell.script, tuple(kept))
                self.assertEqual((shell.names, list(shell.things)), (tuple(sorted(shell.things)), sorted(shell.things)))
            for script in (shell.script, tuple(told)):
                again = Shell.replayed(script)
                self.assertEqual((again == shell, again.things, again.script), (True, shell.things, shell.script))

    def test_wrong_scripts(self):
        for value in EVERY:
            if not isinstance(value, tuple):
                self.fails(InvalidCommand, Shell.replayed, value)
        self.fails(InvalidCommand, Shell.replayed, ["new a\nweb 1"])
        self.fails(InvalidCommand, Shell.replayed, ("new a\nweb 1", None))
        self.fails(InvalidCommand, Shell.replayed, ("new a\nweb 1", ("text a",)))
        self.fails(UnknownName, Shell.replayed, ("new a\nweb 1", "drop b"), keeps=("name", "b"))
        self.fails(UnknownName, Shell.replayed, ("new a\nweb 1", "text b", "x"), keeps=("name", "b"))
        self.fails(ParseError, Shell.replayed, ("new a\nweb 1", "new b\nweb 2\nx"), keeps=("line", 1))
        self.fails(TooMany, Shell.replayed, tuple("new " + name + "\nweb 1" for name in "abcdefghi"), keeps=("limit", 8))
        self.assertEqual(Shell.replayed(()), Shell())
        self.assertEqual(Shell.replayed(("new a\nweb 1", "alone a")).script, ("new a\nweb 1",))


class Values(ShellCase):
    def test_comparison(self):
        shell = self.started()
        same = Shell()
        for name, thing in (("d", HIGH), ("c", GRID), ("b", RING), ("x", PATH)):
            same("new " + name + "\n" + write(thing))
        same("copy x a")
        same("drop x")
        named, other = self.started(), self.started()
        named("copy a e")
        other("other a")
        renamed = self.started()
        renamed("copy a z")
        renamed("drop a")
        self.assert_compares(shell, same, [Shell(), named, other, renamed, shell.things] + EVERY)
        self.assertEqual(Shell() == Shell(), True)

    def test_words_and_members(self):
        shell = self.started()
        self.assertEqual((str(shell), str(Shell()), len(Shell())), ("shell of 4 things", "shell of 0 things", 0))
        shell("drop a")
        self.assertEqual((str(shell), len(shell)), ("shell of 3 things", 3))
        for value in EVERY + ["b", "e"]:
            self.assertIs(value in shell, isinstance(value, str) and value in ("b", "c", "d"))
        self.assert_not_iterable(shell)

    def test_gives_no_access(self):
        shell = self.started()
        things = shell.things
        things["z"] = PATH
        del things["a"]
        self.assertEqual((shell.names, "z" in shell), (("a", "b", "c", "d"), False))
        self.assertIs(type(shell.script), tuple)
        for name in ("names", "things", "script"):
            with self.assertRaises(AttributeError):
                setattr(shell, name, None)
        one, other = Shell(), Shell()
        one("new a\nweb 1")
        self.assertEqual((len(other), other.script, Shell().names), (0, (), ()))
