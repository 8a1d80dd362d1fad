"""Things with a part: whether some thing with some sums has a part with other ones, of which one row is even."""

from sumsalone.base.ends import followed, numbers_of, thing_of
from sumsalone.base.things import is_sums, is_thing, ordered
from sumsalone.both.sums import check_both_sums
from sumsalone.errors import InvalidOperation
from sumsalone.rows.rows import is_row
from sumsalone.sure.forced import is_possible
from sumsalone.sure.papers import is_bar_of, paper_of


def is_level(value):
    """Whether the value is a row of which no two entries differ by more than 1."""
    return is_row(value) and max(value) - min(value) <= 1


def rest_of(sums, share):
    """The sums less the share, or None if an entry would be less than 0."""
    _check_share(sums, share)
    if sums[0] == "table":
        rest = ("table", sums[1], _less(sums[2], share[2]), _less(sums[3], share[3]))
    else:
        rest = ("web", _less(sums[1], share[1]))
    return rest if is_sums(rest) else None


def has_part(sums, share):
    """Whether some thing with the sums has a part with the share."""
    rest = rest_of(sums, share)
    return rest is not None and is_possible(sums) and is_possible(rest)


def parted_paper(sums, share):
    """A thing with the sums and its part with the share, or a bar of the sums or of the rest."""
    rest = rest_of(sums, share)
    if not is_possible(sums):
        return ("whole", paper_of(sums))
    if rest is None:
        return ("rest", "range")
    if not is_possible(rest):
        return ("rest", paper_of(rest))
    whole, left = _fitted(numbers_of(paper_of(sums)[1]), numbers_of(paper_of(rest)[1]), _level_ends(share))
    part = {pair: number - left[pair] for pair, number in whole.items()}
    return ("made", thing_of(sums, whole), thing_of(share, part))


def is_parted_paper(sums, share, value):
    """Whether the value is a parted paper."""
    rest = rest_of(sums, share)
    if not isinstance(value, tuple) or not 2 <= len(value) <= 3:
        return False
    if len(value) == 3:
        return value[0] == "made" and _is_with_part(sums, share, value[1], value[2])
    if value[0] == "whole":
        return is_bar_of(sums, value[1])
    if value[0] != "rest":
        return False
    return value[1] == "range" if rest is None else is_bar_of(rest, value[1])


def _check_share(sums, share):
    """Raise the errors for what are no such sums, and for a share that is not like them, or not level."""
    check_both_sums(sums)
    check_both_sums(share)
    if _measures(sums) != _measures(share):
        raise InvalidOperation("the sums and the share are not of one kind and size")
    if len(_level_ends(share)) == 0:
        raise InvalidOperation("the share is not level")


def _measures(sums):
    """What is equal for things of one kind and size: the kind, the cap, and the numbers of entries."""
    if sums[0] == "table":
        return ("table", sums[1], len(sums[2]), len(sums[3]))
    return ("web", len(sums[1]))


def _level_ends(share):
    """The ends whose sums are level: all lines, or all columns, or all places; none if no such row is level."""
    if share[0] == "web":
        return list(range(len(share[1]))) if is_level(share[1]) else []
    many = len(share[2])
    if is_level(share[2]):
        return list(range(many))
    return list(range(many, many + len(share[3]))) if is_level(share[3]) else []


def _less(row, taken):
    """What is left of the entries of a row."""
    return tuple([entry - other for entry, other in zip(row, taken)])


def _is_with_part(sums, share, thing, part):
    """Whether these are a thing with the sums, and a part of it with the share."""
    if not is_thing(sums, thing) or not is_thing(share, part):
        return False
    whole = numbers_of(thing)
    return all([number <= whole[pair] for pair, number in numbers_of(part).items()])


def _fitted(whole, left, level_ends):
    """Numbers of things with the same sums, of which what is left is nowhere more than the whole.

    Each exchange, of the whole or of what is left, makes what is too much less by one or more (8.2).
    """
    over = _first_over(whole, left, level_ends)
    while over is not None:
        one, other = over
        third, fourth = _corners(whole, left, one, other, level_ends)
        if whole[ordered(one, fourth)] > whole[ordered(third, fourth)]:
            whole = followed(whole, (one, fourth, third, other), False)
        else:
            left = followed(left, (one, other, third, fourth), False)
        over = _first_over(whole, left, level_ends)
    return whole, left


def _first_over(whole, left, level_ends):
    """The ends of the first pair where more is left than there is in the whole, one with a level sum first; or None."""
    for pair, number in whole.items():
        if number < left[pair]:
            return pair if pair[0] in level_ends else pair[::-1]
    return None


def _spare(whole, left, one, other):
    """How much less than in the whole is left between two ends; 0 if they are no pair."""
    pair = ordered(one, other)
    return whole.get(pair, 0) - left.get(pair, 0)


def _corners(whole, left, one, other, level_ends):
    """Two more ends: one that has to spare towards the other end, and one towards which the first one has more.

    There are such ends: the sum of what is to spare is not below 0 for the other end, and for the third end it is
    greater than for the first one by 1 at most, as both are level.
    """
    third = [end for end in level_ends if _spare(whole, left, end, other) > 0][0]
    ends = [end for pair in whole if one in pair for end in pair if end not in (one, other, third)]
    fourth = [end for end in ends if _spare(whole, left, one, end) > _spare(whole, left, third, end)][0]
    return third, fourth
