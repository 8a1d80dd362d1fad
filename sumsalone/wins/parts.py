"""The parts of tournaments, their rings of three, and rows and rings through all players."""

from sumsalone.base.checks import is_within
from sumsalone.base.things import Tournament
from sumsalone.errors import InvalidOperation, InvalidTournament
from sumsalone.wins.scores import has_tournament, players_by_score


def strong_parts(scores):
    """The tuple of the parts of the tournaments with these scores, the one that beats all others first."""
    _check_possible(scores)
    parts, part = [], []
    total = 0
    for ahead, player in enumerate(players_by_score(scores)):
        part.append(player)
        total += scores[player]
        # The least players, if they win no more than the results among themselves, are the last parts.
        if 2 * total == (ahead + 1) * ahead:
            parts.append(tuple(sorted(part)))
            part = []
    return tuple(parts[::-1])


def is_strong(scores):
    """Whether the tournaments with these scores have one part."""
    return len(strong_parts(scores)) == 1


def count_rings(scores):
    """The number of rings of three of a tournament with these scores."""
    _check_possible(scores)
    many = len(scores)
    return many * (many - 1) * (many - 2) // 6 - sum([score * (score - 1) // 2 for score in scores])


def parts_in(tournament):
    """The parts of a tournament."""
    _check_tournament(tournament)
    return strong_parts(tournament.scores)


def rings_in(tournament):
    """The ascending tuple of the rings of three, each from its least player on."""
    _check_tournament(tournament)
    beaten = tournament.beaten
    rings = [(one, other, last) for one, losers in enumerate(beaten) for other in losers if one < other
             for last in beaten[other] if one < last and one in beaten[last]]
    return tuple(rings)


def row_through(tournament):
    """A tuple of all players, each of whom beats the next one."""
    _check_tournament(tournament)
    row = []
    for player, losers in enumerate(tournament.beaten):
        # All players ahead of this place beat the new one.
        place = 0
        while place < len(row) and row[place] not in losers:
            place += 1
        row = row[:place] + [player] + row[place:]
    return tuple(row)


def ring_through(tournament):
    """A row through all players of whom the last one beats the first one."""
    _check_tournament(tournament)
    if tournament.players < 3 or len(parts_in(tournament)) > 1:
        raise InvalidOperation("the tournament has several parts, or fewer than three players")
    ring = rings_in(tournament)[0]
    while len(ring) < tournament.players:
        ring = _longer_ring(tournament.beaten, ring)
    return ring


def is_row_through(tournament, value):
    """Whether the value is a row through all players."""
    _check_tournament(tournament)
    many = tournament.players
    if not isinstance(value, tuple) or not all([is_within(player, 0, many - 1) for player in value]):
        return False
    if len(value) != many or len(set(value)) != many:
        return False
    return all([tournament.beats(player, later) for player, later in zip(value, value[1:])])


def is_ring_through(tournament, value):
    """Whether the value is a ring through all players."""
    return is_row_through(tournament, value) and tournament.beats(value[-1], value[0])


def _check_possible(scores):
    """Raise the errors for what is no row, or is not possible."""
    if not has_tournament(scores):
        raise InvalidOperation("no tournament has these scores")


def _check_tournament(value):
    """Raise the error for what is no tournament."""
    if not isinstance(value, Tournament):
        raise InvalidTournament("no tournament")


def _longer_ring(beaten, ring):
    """The ring with one more player in it, or with two more, in a tournament of one part."""
    outside = [player for player in range(len(beaten)) if player not in ring]
    for player in outside:
        for place, ahead in enumerate(ring):
            if player in beaten[ahead] and ring[(place + 1) % len(ring)] in beaten[player]:
                return ring[:place + 1] + (player,) + ring[place + 1:]
    # Each player outside beats all of the ring, or none of it; one of the latter beats one of the former.
    losers = [player for player in outside if player in beaten[ring[0]]]
    pairs = [(one, other) for one in losers for other in beaten[one] if other not in losers]
    return ring + pairs[0]
