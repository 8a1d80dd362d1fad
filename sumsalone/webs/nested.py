"""Nested webs: those that words tell, with the greatest rows of webs."""

from sumsalone.base.checks import check_within, is_whole, is_within
from sumsalone.base.things import MAX_PLACES, Web
from sumsalone.errors import InvalidNumber, InvalidOperation, InvalidWeb, TooMany
from sumsalone.rows.rows import check_row, descending, is_row, is_under
from sumsalone.webs.rows import has_web


def web_of_word(word):
    """The web of a word."""
    if not _is_word(word):
        raise InvalidOperation("a word is a tuple of 1 to 16 entries 0 and 1, the first one 0")
    ties = [(ahead, place) for place, entry in enumerate(word) if entry == 1 for ahead in range(place)]
    return Web.of(len(word), tuple(ties))


def word_of(web):
    """The word whose web is this one with its places in some order, or None."""
    if not isinstance(web, Web):
        raise InvalidWeb("no web")
    return _word(web.degrees)


def is_nested_row(degrees):
    """Whether the row, with its entries in some order, is the row of a nested web."""
    check_row(degrees)
    return _word(degrees) is not None


def nested_rows(places, total):
    """The ascending tuple of all falling nested rows with so many entries and this total."""
    check_within(places, 1, MAX_PLACES)
    if not is_whole(total) or total < 0:
        raise InvalidNumber(total)
    found = [(0,)]
    for place in range(1, places):
        alone = [row + (0,) for row in found]
        tied = [(place,) + tuple([entry + 1 for entry in row]) for row in found if sum(row) + 2 * place <= total]
        found = alone + tied
    return tuple(sorted([row for row in found if sum(row) == total]))


def over(degrees):
    """A falling nested row with the same total, under which the row is, or None."""
    if not has_web(degrees):
        return None
    if len(degrees) > MAX_PLACES:
        raise TooMany(MAX_PLACES)
    return [row for row in nested_rows(len(degrees), sum(degrees)) if is_under(degrees, row)][0]


def is_over(degrees, value):
    """Whether the value is a falling nested row with the same total, under which the row is."""
    check_row(degrees)
    if not is_row(value) or value != descending(value):
        return False
    return is_nested_row(value) and is_under(degrees, value)


def _is_word(value):
    """Whether the value is a word."""
    if not isinstance(value, tuple) or not 1 <= len(value) <= MAX_PLACES:
        return False
    return all([is_within(entry, 0, 1) for entry in value]) and value[0] == 0


def _word(degrees):
    """The word of a nested row, told by taking away its last place again and again; None for other rows.

    The last place of a word has the entry 0, or as much as there are places ahead of it.
    """
    left = sorted(degrees)
    letters = []
    while len(left) > 1:
        if left[0] == 0:
            letters.append(0)
            left = left[1:]
        elif left[-1] == len(left) - 1:
            letters.append(1)
            left = [entry - 1 for entry in left[:-1]]
        else:
            return None
    return tuple(letters + [0])[::-1] if left == [0] else None
