"""Scores: the tournament with them, or the players that bar it."""

from sumsalone.base.checks import is_ascending
from sumsalone.base.things import Tournament
from sumsalone.errors import InvalidOperation, TooMany
from sumsalone.rows.roads import arranged
from sumsalone.rows.rows import check_row, sums_so_far
from sumsalone.rows.turned import least_within

MAX_PLAYERS = 16
MAX_ROW = 64


def tournament_of_wins(many, wins):
    """The tournament of so many players with these pairs of a winner and a loser."""
    beaten = [tuple(sorted([loser for winner, loser in wins if winner == player])) for player in range(many)]
    return Tournament.of(tuple(beaten))


def players_by_score(scores):
    """The players, from the least score on; of equal ones the lower number first."""
    return [player for _, player in sorted([(score, index) for index, score in enumerate(scores)])]


def has_tournament(scores):
    """Whether the row is possible for tournaments."""
    return greatest_deficit(scores) == 0 and _deficits(scores)[-1] == 0


def greatest_deficit(scores):
    """The greatest deficit of a set of players, the empty one too."""
    check_row(scores)
    return max(_deficits(scores))


def score_paper(scores):
    """A tournament with these scores, or a bar with as great a deficit as there is."""
    check_row(scores)
    deficits = _deficits(scores)
    if max(deficits) > 0:
        return ("bar", _least_players(scores, deficits.index(max(deficits))))
    if deficits[-1] != 0:
        return ("bar", tuple(range(len(scores))))
    return ("made", tournament_of(scores))


def is_score_paper(scores, value):
    """Whether the value is a score paper of the row, with any deficit."""
    check_row(scores)
    if not isinstance(value, tuple) or len(value) != 2:
        return False
    kind, told = value
    if kind == "bar":
        return _is_bar(scores, told)
    return kind == "made" and isinstance(told, Tournament) and told.scores == scores


def tournament_of(scores):
    """A tournament with these scores: player by player, each beats those of the later ones that win least."""
    if not has_tournament(scores):
        raise InvalidOperation("no tournament has these scores")
    if len(scores) > MAX_PLAYERS:
        raise TooMany(MAX_PLAYERS)
    left = list(scores)
    wins = []
    for player in range(len(scores)):
        later = sorted([(left[other], other) for other in range(player + 1, len(scores))])
        for _, other in later[:left[player]]:
            wins.append((player, other))
        for _, other in later[left[player]:]:
            wins.append((other, player))
            left[other] -= 1
    return tournament_of_wins(len(scores), wins)


def nearest_scores(scores):
    """A possible row that is had by moving as few units as possible."""
    check_row(scores)
    if _deficits(scores)[-1] != 0:
        raise InvalidOperation("the total is not that of scores")
    return arranged(least_within(scores, greatest_deficit(scores)), scores)


def _deficit(scores, players):
    """How much more these players win among themselves than their scores tell."""
    return len(players) * (len(players) - 1) // 2 - sum([scores[player] for player in players])


def _deficits(scores):
    """The greatest deficit of a set of so many players, for each number of players from 0 on."""
    sums = (0,) + sums_so_far(sorted(scores))
    return [many * (many - 1) // 2 - total for many, total in enumerate(sums)]


def _least_players(scores, many):
    """The ascending tuple of so many players with the least scores; of equal ones the first."""
    return tuple(sorted(players_by_score(scores)[:many]))


def _is_bar(scores, value):
    """Whether the value is a bar of the scores."""
    if not is_ascending(value, len(scores)):
        return False
    deficit = _deficit(scores, value)
    return deficit > 0 or len(value) == len(scores) and deficit != 0
