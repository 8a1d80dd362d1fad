"""Scores [S.1], [S.2]."""

from itertools import product
from random import Random

from sumsalone.base.things import Tournament, Web
from sumsalone.errors import InvalidOperation, InvalidSums, TooMany
from sumsalone.wins import scores as module
from sumsalone.wins.scores import (greatest_deficit, has_tournament, is_score_paper, nearest_scores, score_paper,
                                   tournament_of)
from tests.kinds import EVERY, FORTY, NO_ROWS, THIRTY, Case
from tests.plain import all_tournaments, deficit_of, rows_up_to, subsets
from tests.some import some_tournaments

SMALL = rows_up_to(1, 4) + rows_up_to(2, 4) + rows_up_to(3, 4) + rows_up_to(4, 4) + rows_up_to(5, 3)
ALL = {many: list(all_tournaments(many)) for many in range(1, 6)}
POSSIBLE = {many: {tuple(len(losers) for losers in beaten) for beaten in ALL[many]} for many in ALL}


def bars_of(scores):
    """All bars of a row, read as [S.1] stands."""
    return [players for players in subsets(len(scores)) if players and (
        deficit_of(scores, players) > 0 or len(players) == len(scores) and deficit_of(scores, players) != 0)]


class Constants(Case):
    def test_constants(self):
        self.assertEqual((module.MAX_PLAYERS, module.MAX_ROW), (16, 64))


class Possible(Case):
    def check(self, scores, is_there):
        self.assertIs(has_tournament(scores), is_there)
        kind, told = score_paper(scores)
        self.assertIs(is_score_paper(scores, (kind, told)), True)
        if is_there:
            self.assertEqual(kind, "made")
            self.assertEqual(told.scores, scores)
            self.assertEqual(tournament_of(scores).scores, scores)
        else:
            self.assertEqual(kind, "bar")
            self.fails(InvalidOperation, tournament_of, scores)
        return told

    def test_against_all_sets_of_players(self):
        for scores in SMALL + [(0, 0, 9, 9, 0, 9), (1, 1, 1, 7, 7, 7)]:
            deficits = {players: deficit_of(scores, players) for players in subsets(len(scores))}
            self.assertEqual(greatest_deficit(scores), max(deficits.values()))
            bars = bars_of(scores)
            told = self.check(scores, not bars)
            if bars:
                self.assertIn(told, bars)
                self.assertEqual(deficits[told], max(deficits[players] for players in bars))

    def test_against_all_tournaments(self):
        for many, possible in POSSIBLE.items():
            for scores in rows_up_to(many, 4):
                self.assertIs(has_tournament(scores), scores in possible)

    def test_greater_tournaments(self):
        for players in (6, 11, 16):
            for tournament in some_tournaments(players, 30):
                self.check(tournament.scores, True)
                self.assertIs(is_score_paper(tournament.scores, ("made", tournament)), True)
        self.check(tuple(range(16)), True)
        self.check((7, 8) * 8, True)
        self.check((7,) * 15, True)
        self.check((7,) * 16, False)
        self.check((0, 0) + tuple(range(2, 16)), False)

    def test_long_rows(self):
        for scores in (tuple(range(64)), tuple(range(63, -1, -1)), (31,) * 63, (31, 32) * 32, (8,) * 17):
            self.assertIs(has_tournament(scores), True)
            self.assertEqual(greatest_deficit(scores), 0)
            self.fails(TooMany, score_paper, scores, keeps=("limit", 16))
            self.fails(TooMany, tournament_of, scores, keeps=("limit", 16))
        for scores in ((31,) * 64, (0,) * 64, (0, 0) + tuple(range(2, 64)), (8,) * 18, (32,) * 64):
            told = self.check(scores, False)
            self.assertEqual(deficit_of(scores, told), greatest_deficit(scores) or deficit_of(scores, range(64)))
        self.assertEqual(greatest_deficit((0,) * 64), 64 * 63 // 2)
        self.assertEqual(score_paper((0,) * 64), ("bar", tuple(range(64))))

    def test_great_entries(self):
        for scores in ((THIRTY,), (THIRTY, 0), (THIRTY,) * 64, (0,) * 63 + (THIRTY,), (THIRTY, 0, 0)):
            told = self.check(scores, False)
            self.assertTrue(told)
        self.assertEqual(greatest_deficit((THIRTY,) * 64), 0)
        self.assertEqual(score_paper((THIRTY,) * 3), ("bar", (0, 1, 2)))
        self.assertEqual(greatest_deficit((0,) * 63 + (THIRTY,)), 63 * 62 // 2)
        self.assertEqual(score_paper((0,) * 63 + (THIRTY,)), ("bar", tuple(range(63))))

    def test_one_player(self):
        self.assertEqual(score_paper((0,)), ("made", Tournament(())))
        self.assertEqual(score_paper((1,)), ("bar", (0,)))
        self.assertEqual(tournament_of((0,)), Tournament(()))


class Papers(Case):
    def test_all_bars_are_judged(self):
        for scores in SMALL:
            bars = bars_of(scores)
            for players in subsets(len(scores)):
                self.assertIs(is_score_paper(scores, ("bar", players)), players in bars)

    def test_all_tournaments_are_judged(self):
        for many in (1, 2, 3, 4):
            for scores in rows_up_to(many, 3):
                for beaten in ALL[many]:
                    right = tuple(len(losers) for losers in beaten) == scores
                    self.assertIs(is_score_paper(scores, ("made", Tournament(*beaten))), right)

    def test_all_else_is_refused(self):
        barred = (3, 3, 0, 0)
        self.assertIs(is_score_paper(barred, ("bar", (2, 3))), True)
        for told in ([2, 3], (3, 2), (2, 2), (2, True), (4,), (-1, 3), ("2", "3"), None, 2, {2: 3}, (), (2, FORTY),
                     ((2, 3),), (2,), (0, 1, 2, 3)):
            self.assertIs(is_score_paper(barred, ("bar", told)), False)
        for value in (["bar", (2, 3)], ("bar", (2, 3), 1), ("bar",), ("Bar", (2, 3)), ((2, 3), "bar"), (2, 3), "bar",
                      ("lines", (2, 3)), ("made", None), ("made", (2, 3)), ("made", barred), ("odd", 6)):
            self.assertIs(is_score_paper(barred, value), False)
        for kind in ("Made", "bar", "", None, 1, ("made",), Tournament(())):
            self.assertIs(is_score_paper((0,), (kind, Tournament(()))), False)
        self.assertIs(is_score_paper((0,), ("made", Web(1))), False)
        self.assertIs(is_score_paper((0,), ("made", Tournament(()))), True)
        for scores in ((0,), (0, 1), (3, 3, 0, 0), (THIRTY,)):
            self.judges_every_kind(is_score_paper, scores)
        for kind, value in product(("made", "bar", "odd", None), EVERY):
            if not isinstance(value, Tournament):
                right = repr((kind, value)) in ("('bar', (0,))",)
                self.assertIs(is_score_paper((2,), (kind, value)), right)

    def test_deficits_below_0_bar_for_all_players_alone(self):
        self.assertIs(is_score_paper((2, 2, 2), ("bar", (0, 1, 2))), True)
        self.assertIs(is_score_paper((2, 2, 2), ("bar", (0, 1))), False)
        self.assertIs(is_score_paper((2, 2, 2), ("bar", ())), False)
        self.assertIs(is_score_paper((1, 1, 1), ("bar", (0, 1, 2))), False)

    def test_wrong_arguments(self):
        for wrong in NO_ROWS:
            for call in (has_tournament, greatest_deficit, score_paper, tournament_of, nearest_scores):
                self.fails(InvalidSums, call, wrong)
            self.fails(InvalidSums, is_score_paper, wrong, None)
            self.fails(InvalidSums, is_score_paper, wrong, ("bar", (0,)))

    def test_too_many_comes_last(self):
        for scores in ((0,) * 17, (THIRTY,) * 20):
            self.fails(InvalidOperation, tournament_of, scores)


class Nearest(Case):
    def test_against_all_possible_rows(self):
        for many in range(1, 5):
            total = many * (many - 1) // 2
            for scores in rows_up_to(many, total):
                if sum(scores) != total:
                    self.fails(InvalidOperation, nearest_scores, scores)
                    continue
                fewest = min(sum(abs(a - b) for a, b in zip(row, scores)) for row in POSSIBLE[many]) // 2
                found = nearest_scores(scores)
                self.assertIn(found, POSSIBLE[many])
                self.assertEqual(sum(abs(a - b) for a, b in zip(found, scores)), 2 * fewest)
                self.assertEqual(greatest_deficit(scores), fewest)

    def test_longer_rows(self):
        random = Random(8)
        for length in (5, 16, 17, 40, 64):
            for spread in (1, length // 4 + 1, length):
                scores = [0] * length
                for _ in range(length * (length - 1) // 2):
                    scores[random.randrange(spread)] += 1
                random.shuffle(scores)
                scores = tuple(scores)
                found = nearest_scores(scores)
                self.assertIs(has_tournament(found), True)
                moved = sum(abs(a - b) for a, b in zip(found, scores)) // 2
                self.assertEqual(moved, greatest_deficit(scores))
        self.assertEqual(nearest_scores(tuple(range(64))), tuple(range(64)))
        self.fails(InvalidOperation, nearest_scores, (THIRTY,) * 64)
        self.fails(InvalidOperation, nearest_scores, (0,) * 64)
        self.assertEqual(nearest_scores((0,)), (0,))
