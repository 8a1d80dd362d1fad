"""What holds over the whole program [0.1] to [0.6]."""

import copy
import time
from itertools import combinations, product

from sumsalone.base.things import Table, Tournament, Web
from sumsalone.errors import InvalidNumber, InvalidTable, InvalidTournament, InvalidWeb, UnknownName
from sumsalone.fill.insertion import Press
from sumsalone.house.bench import Bench
from sumsalone.rows.rows import Order
from sumsalone.text.shell import Shell
from tests.calls import FUNCTIONS, GRID, METHODS, PATH, RING, STATES, a_bench, a_press, a_shell
from tests.kinds import EVERY, FORTY, NO_FORMS, NO_ROWS, NO_SUMS, Case
from tests.test_interface import METHOD_PARAMETERS, MODULES

KEPT = {InvalidNumber: "value", UnknownName: "name"}
CHOSEN = [None, True, -1, FORTY, "a", "\n", (), (True,), ((),), [], [0], {}, GRID, PATH, RING, ("web", (True,)), (-1,)]


def made(parameters, changes):
    """Positional arguments and named ones, some of them changed by their indices."""
    given = [changes.get(at, parameter[1]) for at, parameter in enumerate(parameters)]
    names = [parameter[0] for parameter in parameters]
    return ([value for title, value in zip(names, given) if not title.startswith("*")],
            {title[1:]: value for title, value in zip(names, given) if title.startswith("*")})


def calls():
    """For each function and method what makes a call of it, and the object, its parameters, and its later errors."""
    for call, parameters, then in FUNCTIONS:
        yield (lambda call=call: (call, None)), parameters, then
    for make, method, parameters, then in METHODS:
        def called(make=make, method=method):
            made_object = make()
            return getattr(made_object, method), made_object
        yield called, parameters, then


def state_of_object(one):
    return None if one is None else STATES[type(one)](one)


class Arguments(Case):
    def check(self, make, parameters, then, changes):
        """The first wrong argument decides; without one there is an answer, or one of the later errors."""
        call, one = make()
        before = state_of_object(one)
        arguments, named = made(parameters, changes)
        kept = copy.deepcopy([value for value in changes.values() if isinstance(value, (list, dict))])
        wrong = [at for at in sorted(changes) if not parameters[at][2](changes[at])]
        if wrong:
            error = parameters[wrong[0]][3]
            keeps = (KEPT[error], changes[wrong[0]]) if error in KEPT else None
            self.fails(error, call, *arguments, keeps=keeps, **named)
            self.assertEqual(state_of_object(one), before)
        else:
            # With another thing, or other sums, the good arguments behind it may be wrong ones.
            later = then + [parameter[3] for parameter in parameters[min(changes) + 1:] if parameter[3] is not None]
            try:
                call(*arguments, **named)
            except tuple(later) as error:
                self.assertIn(type(error), later)
                self.assertEqual(state_of_object(one), before)
        self.assertEqual([value for value in changes.values() if isinstance(value, (list, dict))], kept)

    def test_values_of_all_kinds_in_each_place(self):
        for make, parameters, then in calls():
            for at in range(len(parameters)):
                for value in EVERY + NO_FORMS:
                    self.check(make, parameters, then, {at: value})

    def test_rows_and_sums_of_all_wrong_forms(self):
        for make, parameters, then in calls():
            for at, parameter in enumerate(parameters):
                if type(parameter[1]) is tuple:
                    for value in NO_ROWS + NO_SUMS:
                        self.check(make, parameters, then, {at: value})

    def test_good_arguments_have_an_answer(self):
        for make, parameters, _ in calls():
            call, _ = make()
            arguments, named = made(parameters, {})
            if call.__name__ not in ("nearer",):
                call(*arguments, **named)

    def test_two_and_three_wrong_arguments(self):
        for make, parameters, then in calls():
            for many in (2, 3):
                for places in combinations(range(len(parameters)), many):
                    wrong = [[value for value in CHOSEN if not parameters[at][2](value)][:5 if many == 2 else 3]
                             for at in places]
                    for values in product(*wrong):
                        self.check(make, parameters, then, dict(zip(places, values)))

    def test_all_of_the_interface_is_looked_at(self):
        looked_at = {call.__name__ for call, _, _ in FUNCTIONS} | {"each_exchange", "each_filling", "each_thing"}
        looked_at |= {"Shell", "Table", "Web", "Tournament"}
        for names in MODULES.values():
            if "SumError" not in names:
                self.assertLessEqual(set(names.split()), looked_at)
        methods = {(type(make()).__name__, method) for make, method, _, _ in METHODS}
        for (_, name), told in METHOD_PARAMETERS.items():
            for method, parameters in told.items():
                if parameters not in ("(self)", "(self, call)") and method not in ("of", "replayed"):
                    self.assertIn((name, method), methods)

    def test_equal_calls_have_equal_results(self):
        for make, parameters, _ in calls():
            arguments, named = made(parameters, {})
            call, _ = make()
            again, _ = make()
            if call.__name__ not in ("nearer",):
                self.assertEqual(call(*arguments, **named), again(*arguments, **named))


class Rest(Case):
    def test_classes_that_take_all_arguments_together(self):
        for value in EVERY:
            cases = [(InvalidTable, Table, Table.of, 1, ((0, 1),)), (InvalidWeb, Web, Web.of, 2, ((0, 1),))]
            for error, whole, of, first, rest in cases:
                for arguments in ([value], [first, value], [value, *rest], [first, *rest, value], [value, value, value]):
                    self.same_or_wrong(error, whole, of, arguments[:1], arguments[1:])
                if not isinstance(value, tuple):
                    self.fails(error, of, first, value)
            for beaten in ([value], [(1,), value], [value, value]):
                self.same_or_wrong(InvalidTournament, Tournament, Tournament.of, [], beaten)
            if not isinstance(value, tuple):
                self.fails(InvalidTournament, Tournament.of, value)

    def same_or_wrong(self, error, whole, of, first, rest):
        try:
            thing = whole(*first, *rest)
        except error as caught:
            self.assertIs(type(caught), error)
            self.fails(error, of, *first, tuple(rest))
        else:
            self.assertEqual(of(*first, tuple(rest)), thing)

    def test_passed_by_position_or_by_keyword(self):
        for make, parameters, _ in calls():
            call, _ = make()
            arguments, named = made(parameters, {})
            for title in named:
                with self.assertRaises(TypeError):
                    call(*arguments, named[title])


class Objects(Case):
    def every_object(self):
        return [GRID, PATH, RING, Order(3, 4), a_press(), a_bench(), a_shell()]

    def test_no_iterating(self):
        for one in self.every_object():
            self.assert_not_iterable(one)

    def test_comparing_with_values_of_every_kind(self):
        for one, again in zip(self.every_object(), self.every_object()):
            self.assertIs(one == again, True)
            self.assertIs(one != again, False)
            for value in EVERY:
                self.assertIs(type(one == value), bool)
                self.assertIs(one != value, not one == value)
                self.assertIs(value in [one], one == value)

    def test_members_of_every_kind(self):
        for one in (Order(3, 4), a_bench(), a_shell()):
            for value in EVERY + NO_FORMS:
                self.assertIs(type(value in one), bool)
                self.assertIs(value not in one, not value in one)

    def test_words(self):
        self.assertEqual([str(one) for one in self.every_object()],
                         ["table of 2 lines, 3 columns, cap 1", "web of 4 places, 3 ties", "tournament of 3 players",
                          "rows of 3 entries, total 4", "press of 2 lines, 3 columns, 1 pairs",
                          "bench with web of 4 places, 4 ties, 1 promises", "shell of 2 things"])
        self.assertEqual([str(one) for one in (Table(1, (0,)), Web(1), Tournament(()), Order(1, 0), Press(1, 1),
                                               Bench(Web(1)), Shell())],
                         ["table of 1 lines, 1 columns, cap 1", "web of 1 places, 0 ties", "tournament of 1 players",
                          "rows of 1 entries, total 0", "press of 1 lines, 1 columns, 0 pairs",
                          "bench with web of 1 places, 0 ties, 0 promises", "shell of 0 things"])


class Greatest(Case):
    def test_each_call_answers_within_seconds(self):
        """Great values in the place of each argument."""
        great = [("table", 9, (54,) * 12, (54,) * 12), ("table", 1, (6,) * 12, (6,) * 12), ("web", (8,) * 16),
                 ("tournament", (7, 8) * 8), (10 ** 30 - 1,) * 64, tuple(range(64)), (32,) * 64, (31, 32) * 32, (7, 8) * 8,
                 (5, 6, 7, 8) * 4, (8,) * 16, ("table", 9, (10 ** 30 - 1,) * 12, (10 ** 30 - 1,) * 12),
                 Table(9, *[tuple((i * j) % 10 for j in range(12)) for i in range(12)]),
                 Table(1, *[tuple((i + j) % 2 for j in range(12)) for i in range(12)]),
                 Web(16, *[(i, j) for i in range(16) for j in range(i + 1, 16) if (i + j) % 3]),
                 Tournament(*[tuple(sorted((i + k) % 15 for k in range(1, 8))) for i in range(15)]),
                 ("table", 3, (7,) * 5, (7,) * 5), ("table", 1, (3, 4) * 3 + (3,), (4, 3) * 3 + (3,)), ("web", (3,) * 6 + (4,)),
                 ("tournament", (3,) * 7), (12, 10, 8, 6, 4, 2), (5, 5, 5, 5, 5, 5, 6, 6)]
        slow = []
        for make, parameters, then in calls():
            for at in range(len(parameters)):
                for value in great:
                    call, _ = make()
                    arguments, named = made(parameters, {at: value})
                    start = time.perf_counter()
                    try:
                        call(*arguments, **named)
                    except tuple(({parameter[3] for parameter in parameters} | set(then)) - {None}):
                        pass
                    if time.perf_counter() - start > 5:
                        slow.append((call, at, value))
        self.assertEqual(slow, [])
