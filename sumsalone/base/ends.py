"""Things as numbers between pairs of ends, in which one unit stands like another.

The ends of a table are its lines and then, counted on, its columns; those of a web are its places, those of a
tournament its players. The number of a pair (i, j), i < j, is that of the cell, or 1 for a tie, or 1 if i has beaten j.
"""

from sumsalone.base.checks import is_whole
from sumsalone.base.things import Table, Tournament, Web, ordered


def is_round(sums):
    """Whether the sums are those of a tournament, in which units go round instead of to and fro."""
    return sums[0] == "tournament"


def most_between(sums):
    """The greatest number that a pair can have."""
    return sums[1] if sums[0] == "table" else 1


def count_ends(sums):
    """The number of ends."""
    return len(sums[2]) + len(sums[3]) if sums[0] == "table" else len(sums[1])


def pairs_of(sums):
    """All pairs between which there can be units, ascending."""
    if sums[0] == "table":
        return [(line, column) for line in range(len(sums[2])) for column in range(len(sums[2]), count_ends(sums))]
    return [(i, j) for i in range(len(sums[1])) for j in range(i + 1, len(sums[1]))]


def places_of(sums):
    """All places of the sums, ascending; those of a table tell columns by their own indices."""
    return [(one, other - _first_column(sums)) for one, other in pairs_of(sums)]


def is_place(sums, value):
    """Whether the value is a place of the sums."""
    if not isinstance(value, tuple) or not all([is_whole(index) for index in value]):
        return False
    return value in places_of(sums)


def _first_column(sums):
    """The end that is the first column; 0 for what has none."""
    return len(sums[2]) if sums[0] == "table" else 0


def number_at(thing, place):
    """The number of a place of the thing."""
    return numbers_of(thing)[(place[0], place[1] + _first_column(thing.sums))]


def numbers_of(thing):
    """The dict from all pairs of a thing to their numbers."""
    pairs = pairs_of(thing.sums)
    if isinstance(thing, Table):
        return {(line, end): thing.lines[line][end - len(thing)] for line, end in pairs}
    if isinstance(thing, Web):
        tied = {tie: True for tie in thing.ties}
        return {pair: int(pair in tied) for pair in pairs}
    return {(i, j): int(j in thing.beaten[i]) for i, j in pairs}


def thing_of(sums, numbers):
    """The thing with these numbers, of the kind and the size that the sums tell."""
    if sums[0] == "table":
        many = len(sums[2])
        columns = list(range(many, count_ends(sums)))
        return Table.of(sums[1], tuple([tuple([numbers[(line, end)] for end in columns]) for line in range(many)]))
    if sums[0] == "web":
        return Web.of(len(sums[1]), tuple([pair for pair, number in numbers.items() if number == 1]))
    players = list(range(len(sums[1])))
    return Tournament.of(tuple([tuple([j for j in players if beats(numbers, i, j)]) for i in players]))


def beats(numbers, one, other):
    """Whether the numbers of a tournament tell that the first player beats the second one."""
    if one < other:
        return numbers[(one, other)] == 1
    return one > other and numbers[(other, one)] == 0


def has_room(numbers, one, other, most):
    """Whether these two ends are a pair between which one more unit can be."""
    return numbers.get(ordered(one, other), most) < most


def joined_ends(many, pairs):
    """The ends, so many, in ascending tuples of those that hang together by these pairs."""
    part_of = list(range(many))
    for one, other in pairs:
        old, new = part_of[one], part_of[other]
        if old != new:
            part_of = [new if part == old else part for part in part_of]
    return [tuple([end for end in range(many) if part_of[end] == part]) for part in sorted(set(part_of))]


def gap(here, there):
    """The sum of the amounts by which the numbers of two things of one size differ."""
    return sum([abs(number - there[pair]) for pair, number in here.items()])


def changes_along(way, goes_round):
    """The pairs along a closed way, each with the change of its number.

    To and fro the pairs give a unit and take one in turn. Round about each result is turned: the number goes down if
    the lesser player has won.
    """
    changes = []
    for at, end in enumerate(way):
        following = way[(at + 1) % len(way)]
        gives = end < following if goes_round else at % 2 == 0
        changes.append((ordered(end, following), -1 if gives else 1))
    return changes


def followed(numbers, way, goes_round):
    """The numbers behind a closed way."""
    behind = {pair: numbers[pair] for pair in numbers}
    for pair, change in changes_along(way, goes_round):
        behind[pair] += change
    return behind
