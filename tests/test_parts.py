"""Parts of tournaments, rings of three, rows and rings through all [P.1] to [P.5]."""

from itertools import combinations, permutations, product
from random import Random

from sumsalone.base.things import Table, Tournament, Web
from sumsalone.errors import InvalidOperation, InvalidSums, InvalidTournament
from sumsalone.wins.parts import (count_rings, is_ring_through, is_row_through, is_strong, parts_in, ring_through,
                                  rings_in, row_through, strong_parts)
from tests.kinds import EVERY, FORTY, NO_ROWS, NO_TOURNAMENTS, THIRTY, Case
from tests.plain import all_tournaments, deficit_of, parts_of_tournament, rings_of_three, rows_up_to, subsets
from tests.some import some_tournaments

ALL = {many: list(all_tournaments(many)) for many in range(1, 6)}
BY_SCORES = {}
for _many in ALL:
    for _beaten in ALL[_many]:
        BY_SCORES.setdefault(tuple(len(losers) for losers in _beaten), []).append(_beaten)


def goes_through(beaten, row):
    return sorted(row) == list(range(len(beaten))) and all(j in beaten[i] for i, j in zip(row, row[1:]))


class Parts(Case):
    def test_all_small_tournaments(self):
        for scores, every in BY_SCORES.items():
            parts = strong_parts(scores)
            self.assertIs(is_strong(scores), len(parts) == 1)
            for beaten in every:
                self.assertEqual(parts_of_tournament(beaten), parts)
                self.assertEqual(parts_in(Tournament(*beaten)), parts)
                self.assertEqual(rings_in(Tournament(*beaten)), rings_of_three(beaten))
                self.assertEqual(len(rings_of_three(beaten)), count_rings(scores))

    def test_tight_sets_are_the_last_parts(self):
        for scores in BY_SCORES:
            parts = strong_parts(scores)
            last = {tuple(sorted(player for part in parts[at:] for player in part)) for at in range(len(parts) + 1)}
            self.assertEqual({some for some in subsets(len(scores)) if deficit_of(scores, some) == 0}, last)

    def test_results_that_are_always_the_same(self):
        for scores, every in BY_SCORES.items():
            part_of = {player: at for at, part in enumerate(strong_parts(scores)) for player in part}
            for i, j in permutations(range(len(scores)), 2):
                is_fixed = len({j in beaten[i] for beaten in every}) == 1
                self.assertIs(is_fixed, part_of[i] != part_of[j])

    def test_scores_that_are_not_possible(self):
        for many in range(1, 5):
            for scores in rows_up_to(many, 4):
                if scores not in BY_SCORES:
                    for call in (strong_parts, is_strong, count_rings):
                        self.fails(InvalidOperation, call, scores)
        for scores in ((THIRTY,) * 64, (0,) * 64, (31,) * 64, (0, 0, 3)):
            for call in (strong_parts, is_strong, count_rings):
                self.fails(InvalidOperation, call, scores)

    def test_long_rows(self):
        self.assertEqual(strong_parts(tuple(range(64))), tuple((player,) for player in range(63, -1, -1)))
        self.assertEqual(strong_parts((31,) * 63), (tuple(range(63)),))
        self.assertEqual(count_rings(tuple(range(64))), 0)
        self.assertEqual(count_rings((31,) * 63), 63 * 62 * 61 // 6 - 63 * 31 * 30 // 2)
        self.assertIs(is_strong((31, 32) * 32), True)
        scores = (1, 4, 1, 4, 1, 4)
        self.assertEqual(strong_parts(scores), ((1, 3, 5), (0, 2, 4)))
        self.assertEqual(strong_parts(tuple(s + 3 * at for at in range(21) for s in (1, 1, 1)))[0], (60, 61, 62))

    def test_greater_tournaments(self):
        for players in (8, 12, 16):
            for tournament in some_tournaments(players, 30):
                self.assertEqual(parts_in(tournament), parts_of_tournament(tournament.beaten))
                self.assertEqual(rings_in(tournament), rings_of_three(tournament.beaten))
                self.assertEqual(len(rings_in(tournament)), count_rings(tournament.scores))

    def test_one_and_two_players(self):
        self.assertEqual(strong_parts((0,)), ((0,),))
        self.assertEqual(strong_parts((0, 1)), ((1,), (0,)))
        self.assertEqual((is_strong((0,)), is_strong((1, 0))), (True, False))
        self.assertEqual((count_rings((0,)), count_rings((1, 0)), rings_in(Tournament(()))), (0, 0, ()))
        self.assertEqual(parts_in(Tournament((1,), ())), ((0,), (1,)))

    def test_what_is_not_true(self):
        self.assertEqual(strong_parts((1, 1, 1, 4, 4, 4)), ((3, 4, 5), (0, 1, 2)))
        self.assertEqual(strong_parts((2, 2, 1, 1)), ((0, 1, 2, 3),))
        self.assertEqual(strong_parts((1, 2, 2, 1)), ((0, 1, 2, 3),))

    def test_wrong_arguments(self):
        for wrong in NO_ROWS:
            for call in (strong_parts, is_strong, count_rings):
                self.fails(InvalidSums, call, wrong)
        for wrong in NO_TOURNAMENTS:
            for call in (parts_in, rings_in, row_through, ring_through):
                self.fails(InvalidTournament, call, wrong)
            for value in ((0,), None):
                self.fails(InvalidTournament, is_row_through, wrong, value)
                self.fails(InvalidTournament, is_ring_through, wrong, value)


class Through(Case):
    def check(self, tournament):
        row = row_through(tournament)
        self.assertIs(type(row), tuple)
        self.assertTrue(goes_through(tournament.beaten, row))
        self.assertIs(is_row_through(tournament, row), True)
        if len(tournament) < 3 or len(parts_of_tournament(tournament.beaten)) > 1:
            self.fails(InvalidOperation, ring_through, tournament)
            return
        ring = ring_through(tournament)
        self.assertIs(type(ring), tuple)
        self.assertTrue(goes_through(tournament.beaten, ring))
        self.assertIn(ring[0], tournament.beaten[ring[-1]])
        self.assertIs(is_ring_through(tournament, ring), True)
        self.assertIs(is_row_through(tournament, ring), True)

    def test_all_small_tournaments(self):
        for every in ALL.values():
            for beaten in every:
                self.check(Tournament(*beaten))

    def test_greater_tournaments(self):
        for players in (6, 7, 10, 13, 16):
            for tournament in some_tournaments(players, 40):
                self.check(tournament)

    def test_two_parts_of_a_ring_that_are_only_joined_by_one_result(self):
        # All players beat the lower numbers, but the first one beats the last one: there is just one ring through all.
        for many in (3, 4, 9, 16):
            beaten = [list(range(player)) for player in range(many)]
            beaten[0].append(many - 1)
            beaten[-1].remove(0)
            self.check(Tournament(*[tuple(losers) for losers in beaten]))

    def test_players_who_beat_all_of_a_ring_or_none(self):
        random = Random(9)
        for many in (5, 6, 7, 10, 16):
            for _ in range(20):
                some = random.randint(1, many - 4)
                losers, winners = list(range(3, 3 + some)), list(range(3 + some, many))
                wins = [(0, 1), (1, 2), (2, 0)]
                wins += [(player, loser) for player in range(3) for loser in losers]
                wins += [(winner, player) for player in range(3) for winner in winners]
                wins += [pair if random.random() < 0.7 else pair[::-1]
                         for group in (losers, winners) for pair in combinations(group, 2)]
                turned = (random.choice(losers), random.choice(winners))
                wins += [(winner, loser) for winner in winners for loser in losers if (loser, winner) != turned]
                wins.append(turned)
                self.check(Tournament(*[tuple(sorted(j for i, j in wins if i == player)) for player in range(many)]))

    def test_all_rows_are_judged(self):
        for many in range(1, 5):
            for beaten in ALL[many]:
                tournament = Tournament(*beaten)
                for value in product(range(many), repeat=many):
                    is_row = goes_through(beaten, value)
                    self.assertIs(is_row_through(tournament, value), is_row)
                    self.assertIs(is_ring_through(tournament, value), is_row and value[0] in beaten[value[-1]])

    def test_all_else_is_refused(self):
        stair, ring = Tournament((1, 2), (2,), ()), Tournament((1,), (2,), (0,))
        for value in ([0, 1, 2], (0, 1), (0, 1, 2, 2), (0, 1, 2, 0), (0, True, 2), (False, 1, 2), (0, 1, "2"), (0, 1, 3),
                      (-1, 0, 1), (0, 1, None), (), ((0, 1, 2),), (0, 1, FORTY), (0, 1, 2, None), (2, 1, 0), (0, 2, 1)):
            self.assertIs(is_row_through(stair, value), False)
            self.assertIs(is_ring_through(ring, value), False)
        self.assertIs(is_row_through(stair, (0, 1, 2)), True)
        self.assertIs(is_ring_through(stair, (0, 1, 2)), False)
        for value in ((0, 1, 2), (1, 2, 0), (2, 0, 1)):
            self.assertIs(is_ring_through(ring, value), True)
        for value in ((0, 1, 2, 0), (0, 1), (0, 1, 2, 0, 1, 2), (1,), ()):
            self.assertIs(is_row_through(ring, value), False)
            self.assertIs(is_ring_through(ring, value), False)
        for tournament in (stair, ring, Tournament(()), Tournament((1,), ())):
            self.judges_every_kind(is_row_through, tournament)
            self.judges_every_kind(is_ring_through, tournament)
        self.assertEqual([value for value in EVERY if is_row_through(Tournament(()), value)], [(0,)])
        self.assertEqual([value for value in EVERY if is_ring_through(Tournament(()), value)], [])
        self.assertIs(is_ring_through(Tournament((1,), ()), (0, 1)), False)

    def test_others_are_no_tournaments(self):
        for wrong in (Web(1), Table(1, (0,)), ((1,), ()), ("tournament", (0,))):
            self.fails(InvalidTournament, ring_through, wrong)
