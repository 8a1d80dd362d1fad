"""Things of all sizes, always the same ones."""

from itertools import combinations
from random import Random

from sumsalone.base.things import Table, Tournament, Web


def some_tables(many, most=12, caps=range(1, 10)):
    """Tables of all sizes up to so many lines and columns."""
    random = Random(7)
    for _ in range(many):
        cap, lines, columns = random.choice(caps), random.randint(1, most), random.randint(1, most)
        bias = random.choice(((0, cap), (0, cap // 2), ((cap + 1) // 2, cap)))
        yield Table.of(cap, tuple(tuple(random.randint(*bias) for _ in range(columns)) for _ in range(lines)))


def some_webs(places, many):
    random = Random(places)
    for _ in range(many):
        limit = random.random()
        yield Web(places, *[pair for pair in combinations(range(places), 2) if random.random() < limit])


def some_tournaments(players, many):
    """Tournaments in which the lower number wins more or less often."""
    random = Random(players)
    for _ in range(many):
        limit = random.random()
        beaten = [[] for _ in range(players)]
        names = list(range(players))
        random.shuffle(names)
        for i, j in combinations(range(players), 2):
            winner, loser = (i, j) if random.random() < limit else (j, i)
            beaten[names[winner]].append(names[loser])
        yield Tournament.of(tuple(tuple(sorted(row)) for row in beaten))


def thing_told(told):
    """The thing that is told as in `tests/plain.py`."""
    if told[0] == "table":
        return Table.of(told[1], told[2])
    return Web.of(*told[1:]) if told[0] == "web" else Tournament.of(told[1])
