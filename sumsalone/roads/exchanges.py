"""Exchanges, by which things with equal sums are joined, and the closed ways along which they differ."""

from sumsalone.base.checks import is_within
from sumsalone.base.ends import beats, changes_along, count_ends, followed, gap, has_room, is_round, most_between
from sumsalone.base.ends import numbers_of, thing_of
from sumsalone.base.things import is_any_thing, ordered, sums_of
from sumsalone.errors import InvalidOperation


def distance(one, other):
    """The distance of two things with equal sums."""
    _check_equal_sums(one, other)
    return gap(numbers_of(one), numbers_of(other))


def each_exchange(thing):
    """Yield all things that come from this one by an exchange, each once."""
    sums = sums_of(thing)
    numbers = numbers_of(thing)
    for way in _exchange_ways(thing):
        yield thing_of(sums, followed(numbers, way, is_round(sums)))


def count_exchanges(thing):
    """The number of things that come from this one by an exchange."""
    return len(_exchange_ways(thing))


def is_exchange(thing, value):
    """Whether the value comes from the thing by an exchange."""
    sums = sums_of(thing)
    if not is_any_thing(value) or value.sums != sums:
        return False
    # Where so few units differ, they are those of one exchange.
    return gap(numbers_of(thing), numbers_of(value)) == (3 if is_round(sums) else 4)


def nearer(one, other):
    """An exchange of the first thing that is nearer to the second one, or the other way round."""
    _check_equal_sums(one, other)
    if one == other:
        raise InvalidOperation("nothing is nearer to a thing than itself")
    sums = one.sums
    here, there = numbers_of(one), numbers_of(other)
    side, way = _nearer_way(sums, here, there)
    return (side, thing_of(sums, followed(here if side == "first" else there, way, is_round(sums))))


def is_nearer(one, other, value):
    """Whether the value tells an exchange of one of both things that is nearer to the other one."""
    far = distance(one, other)
    if not isinstance(value, tuple) or len(value) != 2:
        return False
    side, thing = value
    if side == "first":
        return is_exchange(one, thing) and distance(thing, other) < far
    return side == "second" and is_exchange(other, thing) and distance(one, thing) < far


def split(one, other):
    """Closed ways from the first thing to the second one, in which each unit that differs is used once."""
    _check_equal_sums(one, other)
    sums = one.sums
    left = _differences(numbers_of(one), numbers_of(other))
    ways = []
    while max(list(left.values()) + [0]) > 0:
        ways.append(_told(sums, _closed_way(left, is_round(sums))))
    return tuple(ways)


def is_split(one, other, value):
    """Whether the value is a split of both things."""
    _check_equal_sums(one, other)
    sums = one.sums
    if not isinstance(value, tuple) or not all([_is_way(sums, way) for way in value]):
        return False
    left = _differences(numbers_of(one), numbers_of(other))
    for way in value:
        for pair, change in changes_along(_ends(sums, way), is_round(sums)):
            if left.get(pair, 0) * change >= 0:
                return False
            left[pair] += change
    return not any([number != 0 for number in left.values()])


def exchange_road(one, other, split):
    """The things on a way by exchanges from the first to the second thing, one closed way after the other."""
    if not is_split(one, other, split):
        raise InvalidOperation("no split of these two things")
    sums = one.sums
    here = numbers_of(one)
    things = [one]
    for way in split:
        there = followed(here, _ends(sums, way), is_round(sums))
        things.extend([thing_of(sums, numbers) for numbers in _numbers_between(sums, here, there)])
        here = there
    return tuple(things)


def is_exchange_road(one, other, value):
    """Whether the value is a tuple of things on a way by exchanges from the first to the second thing."""
    _check_equal_sums(one, other)
    if not isinstance(value, tuple) or len(value) == 0 or not all([is_any_thing(thing) for thing in value]):
        return False
    if value[0] != one or value[-1] != other:
        return False
    return all([is_exchange(thing, following) for thing, following in zip(value, value[1:])])


def _check_equal_sums(one, other):
    """Raise the errors for the first that is no thing, and for things with unlike sums."""
    if sums_of(one) != sums_of(other):
        raise InvalidOperation("the things are not of one kind with equal sums")


def _exchange_ways(thing):
    """The closed ways of the fewest units that can be followed from a thing, one for each exchange."""
    sums = sums_of(thing)
    numbers = numbers_of(thing)
    if is_round(sums):
        return _rings(numbers, count_ends(sums))
    return _swaps(numbers, most_between(sums))


def _rings(numbers, many):
    """The rings of three players, each from its least player on."""
    pairs = [(i, j) for i in range(many) for j in range(i + 1, many) if beats(numbers, i, j)]
    return [(i, j, k) for i, j in pairs for k in range(i + 1, many) if beats(numbers, j, k) and beats(numbers, k, i)]


def _swaps(numbers, most):
    """The closed ways of four ends, along which two units between these become two other ones."""
    full = [pair for pair in numbers if numbers[pair] > 0]
    ways = []
    for at, (a, b) in enumerate(full):
        for c, d in full[at + 1:]:
            ways.extend([way for way in ((a, b, c, d), (a, b, d, c)) if len(set(way)) == 4
                         and has_room(numbers, way[1], way[2], most) and has_room(numbers, way[3], a, most)])
    return ways


def _differences(here, there):
    """The dict from all pairs to the amounts by which their numbers here are greater than there."""
    return {pair: number - there[pair] for pair, number in here.items()}


def _nearer_way(sums, here, there):
    """("first", way) or ("second", way): the way of an exchange of the one that is nearer to the other one."""
    return _nearer_ring(here, there) if is_round(sums) else _nearer_swap(here, there, most_between(sums))


def _nearer_swap(here, there, most):
    """A way of four ends, of whose units three differ: more here, fewer here, more here.

    It can be followed here or there, but for two cases: the first and the last end are one, or as many units as there
    can be stand between these two here, and none there. On the shortest closed way this is not so everywhere.
    """
    more, fewer = _beside(here, there), _beside(there, here)
    for a in more:
        for b in more[a]:
            for c in fewer[b]:
                for d in more[c]:
                    if a != d and has_room(here, d, a, most):
                        return ("first", (a, b, c, d))
                    if a != d and there[ordered(d, a)] > 0:
                        return ("second", (b, c, d, a))
    return None


def _beside(here, there):
    """The dict from the ends of pairs that have more units here than there to their other ends."""
    beside = {}
    for pair, number in here.items():
        if number > there[pair]:
            beside.setdefault(pair[0], []).append(pair[1])
            beside.setdefault(pair[1], []).append(pair[0])
    return beside


def _nearer_ring(here, there):
    """A ring of three players of whose results two differ.

    It stands here or there, but for the case that its third result differs, too, and goes the other way: then a
    shorter closed way has this result, and in the shortest one there is no such case.
    """
    turned = [pair for pair, number in here.items() if number != there[pair]]
    wins = [(i, j) if beats(here, i, j) else (j, i) for i, j in turned]
    triples = [(a, b, c) for a, b in wins for other, c in wins if other == b]
    for a, b, c in triples:
        if beats(here, c, a):
            return ("first", (a, b, c))
        if beats(there, a, c):
            return ("second", (c, b, a))
    return None


def _numbers_between(sums, here, there):
    """The numbers on a way by exchanges that begins behind here, and ends there; each is nearer than the last one."""
    ahead, behind = [], []
    while here != there:
        side, way = _nearer_way(sums, here, there)
        if side == "first":
            here = followed(here, way, is_round(sums))
            ahead.append(here)
        else:
            behind.append(there)
            there = followed(there, way, is_round(sums))
    return ahead + behind[::-1]


def _closed_way(left, goes_round):
    """A closed way through units that differ, which are taken out of what is left."""
    start = [pair for pair in left if left[pair] > 0][0][0]
    way = [start]
    sign = 1
    while way == [start] or way[-1] != start or sign < 0 and not goes_round:
        way.append(_taken(left, way[-1], sign, goes_round))
        sign = -sign
    return tuple(way[:-1])


def _taken(left, end, sign, goes_round):
    """The other end of a unit that leads on from this end, and is taken out of what is left."""
    around = [pair for pair in left if end in pair]
    for pair in around:
        given = sign if not goes_round else 1 if pair[0] == end else -1
        if left[pair] * given > 0:
            left[pair] -= given
            return sum(pair) - end
    return None


def _ends(sums, way):
    """The ends along a closed way, in which the columns of a table are told by their own indices."""
    if sums[0] != "table":
        return way
    return tuple([index if at % 2 == 0 else index + len(sums[2]) for at, index in enumerate(way)])


def _told(sums, ends):
    """The closed way with these ends, in which the columns of a table are told by their own indices."""
    if sums[0] != "table":
        return ends
    return tuple([end if at % 2 == 0 else end - len(sums[2]) for at, end in enumerate(ends)])


def _is_way(sums, value):
    """Whether the value has the form of a closed way."""
    if not isinstance(value, tuple):
        return False
    if is_round(sums):
        return len(value) >= 3 and all([is_within(player, 0, len(sums[1]) - 1) for player in value])
    if len(value) < 4 or len(value) % 2 == 1:
        return False
    # Both rows of a table are asked in turn, the one row of a web each time.
    rows = sums[-2:] if sums[0] == "table" else (sums[1], sums[1])
    return all([is_within(index, 0, len(rows[at % 2]) - 1) for at, index in enumerate(value)])
