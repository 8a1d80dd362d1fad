"""Rows of webs: the web with these degrees, or the places that bar it."""

from sumsalone.base.checks import check_within, is_ascending, is_whole
from sumsalone.base.things import MAX_PLACES, Web
from sumsalone.errors import InvalidNumber, InvalidOperation, TooMany
from sumsalone.rows.rows import check_row, greatest_places, places_by_entry


def lack(degrees, places):
    """The lack of a set of places."""
    check_row(degrees)
    if not is_ascending(places, len(degrees)):
        raise InvalidNumber(places)
    return _lack(degrees, places)


def greatest_lack(degrees):
    """The greatest lack of all sets of places, the empty one too."""
    check_row(degrees)
    return max(_lacks(degrees))


def has_web(degrees):
    """Whether the row is possible for webs."""
    return greatest_lack(degrees) == 0 and sum(degrees) % 2 == 0


def web_paper(degrees):
    """A web with these degrees, places that bar it, or the odd total."""
    check_row(degrees)
    if sum(degrees) % 2 == 1:
        return ("odd", sum(degrees))
    lacks = _lacks(degrees)
    if max(lacks) > 0:
        return ("bar", greatest_places(degrees, lacks.index(max(lacks))))
    return ("made", web_of(degrees))


def is_web_paper(degrees, value):
    """Whether the value is a web paper of the row."""
    check_row(degrees)
    if not isinstance(value, tuple) or len(value) != 2:
        return False
    kind, told = value
    if kind == "odd":
        return is_whole(told) and told == sum(degrees) and told % 2 == 1
    if kind == "bar":
        return is_ascending(told, len(degrees)) and _lack(degrees, told) > 0
    return kind == "made" and isinstance(told, Web) and told.degrees == degrees


def partners(degrees, place):
    """The ascending tuple of the places to which the place is tied: those with the greatest entries."""
    _check_place(degrees, place)
    return _partners(degrees, place)


def left_after(degrees, place):
    """The row that is left when the place has got its ties."""
    _check_place(degrees, place)
    return _left_after(degrees, place)


def web_of(degrees):
    """The web that comes about if the places get their ties in the order of their numbers."""
    _check_possible(degrees)
    if len(degrees) > MAX_PLACES:
        raise TooMany(MAX_PLACES)
    ties = []
    left = degrees
    for place in range(len(degrees)):
        ties.extend([(place, other) for other in _partners(left, place)])
        left = _left_after(left, place)
    return Web.of(len(degrees), tuple(ties))


def _check_possible(degrees):
    """Raise the errors for what is no row, or is not possible."""
    if not has_web(degrees):
        raise InvalidOperation("no web has these degrees")


def _check_place(degrees, place):
    """Raise the errors for what is no row, or no place of it, or is not possible."""
    check_row(degrees)
    check_within(place, 0, len(degrees) - 1)
    _check_possible(degrees)


def _lack(degrees, places):
    """The lack of a set of places, which need not be checked."""
    many = len(places)
    outside = sum([min(many, entry) for entry in degrees]) - sum([min(many, degrees[place]) for place in places])
    return sum([degrees[place] for place in places]) - many * (many - 1) - outside


def _lacks(degrees):
    """The greatest lack of a set of so many places, for each number of places from 0 on."""
    return [_lack(degrees, greatest_places(degrees, many)) for many in range(len(degrees) + 1)]


def _partners(degrees, place):
    """The other places with the greatest entries, as many as the place has to be tied to, ascending."""
    others = [other for other in places_by_entry(degrees) if other != place]
    return tuple(sorted(others[:degrees[place]]))


def _left_after(degrees, place):
    """The row in which the partners have one less, and the place has 0."""
    left = list(degrees)
    for other in _partners(degrees, place):
        left[other] -= 1
    left[place] = 0
    return tuple(left)
