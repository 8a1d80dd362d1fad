"""Things in one piece: joined ones, and firm ones, which stay joined without any single unit."""

from sumsalone.base.checks import is_whole, is_within
from sumsalone.base.ends import count_ends, followed, has_room, joined_ends, most_between, numbers_of, thing_of
from sumsalone.base.things import Table, Web, is_thing
from sumsalone.both.sums import check_both_sums
from sumsalone.errors import InvalidOperation
from sumsalone.sure.forced import is_possible
from sumsalone.sure.papers import is_bar_of, paper_of


def is_joined(thing):
    """Whether ties, or cells above 0, lead from each end of the thing to each other one."""
    _check_both(thing)
    return len(joined_ends(count_ends(thing.sums), _full(numbers_of(thing)))) == 1


def is_firm(thing):
    """Whether the thing is joined, and stays so without any single tie or unit."""
    return is_joined(thing) and len(_bridges(count_ends(thing.sums), numbers_of(thing))) == 0


def can_join(sums):
    """Whether some thing with the sums is joined."""
    check_both_sums(sums)
    return is_possible(sums) and _low(sums, 1) is None and not _is_few(sums)


def joined_paper(sums):
    """A joined thing with the sums, or what shows that there is none."""
    check_both_sums(sums)
    if _is_few(sums):
        return ("few", _total(sums))
    return _paper(sums, 1, _joined)


def is_joined_paper(sums, value):
    """Whether the value is a joined paper of the sums."""
    check_both_sums(sums)
    if not isinstance(value, tuple) or len(value) != 2:
        return False
    kind, told = value
    if kind == "made":
        return is_thing(sums, told) and is_joined(told)
    if kind == "few":
        return is_whole(told) and told == _total(sums) and _is_few(sums)
    return _is_bar_or_low(sums, kind, told, 1)


def can_be_firm(sums):
    """Whether some thing with the sums is firm."""
    check_both_sums(sums)
    return is_possible(sums) and _low(sums, 2) is None


def firm_paper(sums):
    """A firm thing with the sums, or what shows that there is none."""
    check_both_sums(sums)
    return _paper(sums, 2, _firm)


def is_firm_paper(sums, value):
    """Whether the value is a firm paper of the sums."""
    check_both_sums(sums)
    if not isinstance(value, tuple) or len(value) != 2:
        return False
    kind, told = value
    if kind == "made":
        return is_thing(sums, told) and is_firm(told)
    return _is_bar_or_low(sums, kind, told, 2)


def _check_both(value):
    """Raise the error for what is no table and no web."""
    if not isinstance(value, (Table, Web)):
        raise InvalidOperation("no table and no web")


def _is_one_place(sums):
    """Whether the sums are those of webs with one place, which need no ties to be joined and firm."""
    return sums[0] == "web" and len(sums[1]) == 1


def _named_entries(sums):
    """Pairs of how an entry is told and of the entry itself, for all of them."""
    if sums[0] == "web":
        return list(enumerate(sums[1]))
    lines = [(("line", index), entry) for index, entry in enumerate(sums[2])]
    return lines + [(("column", index), entry) for index, entry in enumerate(sums[3])]


def _low(sums, least):
    """The first entry that is less than it has to be, or None."""
    low = [name for name, entry in _named_entries(sums) if entry < least]
    return None if len(low) == 0 or _is_one_place(sums) else low[0]


def _total(sums):
    """The total of the degrees, or of the lines."""
    return sum(sums[1]) if sums[0] == "web" else sum(sums[2])


def _is_few(sums):
    """Whether the total is too small to join all ends."""
    needed = count_ends(sums) - 1
    return _total(sums) < (2 * needed if sums[0] == "web" else needed)


def _paper(sums, least, exchanged):
    """A thing with the sums, exchanged as the call does it, or a bar, or an entry that is less than it has to be."""
    low = _low(sums, least)
    if low is not None:
        return ("low", low)
    paper = paper_of(sums)
    if paper[0] != "made":
        return ("bar", paper)
    return ("made", thing_of(sums, exchanged(numbers_of(paper[1]), count_ends(sums), most_between(sums))))


def _is_bar_or_low(sums, kind, told, least):
    """Whether this tells a bar of the sums, or an entry that is less than it has to be."""
    if kind == "bar":
        return is_bar_of(sums, told)
    if kind != "low" or _is_one_place(sums):
        return False
    if sums[0] == "web":
        return is_within(told, 0, len(sums[1]) - 1) and sums[1][told] < least
    return _is_low_of_table(sums, told, least)


def _is_low_of_table(sums, told, least):
    """Whether this names a line or a column with a sum that is less than it has to be."""
    if not isinstance(told, tuple) or len(told) != 2 or told[0] not in ("line", "column"):
        return False
    row = sums[2] if told[0] == "line" else sums[3]
    return is_within(told[1], 0, len(row) - 1) and row[told[1]] < least


def _full(numbers):
    """The pairs between which there are units."""
    return [pair for pair, number in numbers.items() if number > 0]


def _bridges(many, numbers):
    """The pairs with one unit without which the ends hang together less than with it."""
    full = _full(numbers)
    parts = len(joined_ends(many, full))
    single = [pair for pair in full if numbers[pair] == 1]
    return [pair for pair in single if len(joined_ends(many, [other for other in full if other != pair])) > parts]


def _joined(numbers, many, most):
    """Numbers with the same sums that join all ends.

    As long as there are several pieces, one of them has a unit that is no bridge, as there are enough units in all. An
    exchange of it with any unit of another piece joins both.
    """
    pieces = joined_ends(many, _full(numbers))
    while len(pieces) > 1:
        firm = _without(_full(numbers), _bridges(many, numbers))
        numbers = followed(numbers, _way_between(numbers, most, pieces, firm, _full(numbers)), False)
        pieces = joined_ends(many, _full(numbers))
    return numbers


def _firm(numbers, many, most):
    """Numbers with the same sums that join all ends even without any single unit.

    The firm pieces hang together by units that are no bridges. As no entry is less than 2, several of them have units
    of their own, and an exchange of a unit of one with a unit of another one makes one piece of both.
    """
    firm = _without(_full(numbers), _bridges(many, numbers))
    pieces = joined_ends(many, firm)
    while len(pieces) > 1:
        numbers = followed(numbers, _way_between(numbers, most, pieces, firm, firm), False)
        firm = _without(_full(numbers), _bridges(many, numbers))
        pieces = joined_ends(many, firm)
    return numbers


def _without(pairs, some):
    """The pairs but for some."""
    return [pair for pair in pairs if pair not in some]


def _way_between(numbers, most, pieces, ones, others):
    """The way of an exchange of one of these pairs with one of the others that is in another piece."""
    piece_of = {end: index for index, piece in enumerate(pieces) for end in piece}
    for a, b in ones:
        for c, d in others:
            if piece_of[a] != piece_of[c]:
                for way in ((a, b, c, d), (a, b, d, c)):
                    if has_room(numbers, b, way[2], most) and has_room(numbers, way[3], a, most):
                        return way
    return None
