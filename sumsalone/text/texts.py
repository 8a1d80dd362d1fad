"""Things and sums as texts, and back."""

from sumsalone.base.things import Table, Tournament, Web, is_any_thing, is_sums
from sumsalone.errors import InvalidOperation, InvalidSums, InvalidWeb, ParseError

DIGITS = "0123456789"
MAX_DIGITS = 40
NOBODY = "-"
# For the beginning of each first line, how many integers stand behind it; None for any number of them.
HEADS = {"sums table": 1, "sums web": None, "sums tournament": None, "table": 1, "web": 1, "tournament": 0}


def write(thing):
    """The text of sums, of a table, a web or a tournament."""
    if is_any_thing(thing):
        return "\n".join(_lines_of_thing(thing))
    if not is_sums(thing):
        raise InvalidOperation("no sums, table, web or tournament")
    if thing[0] == "table":
        return "\n".join([f"sums table {thing[1]}", _told(thing[2]), _told(thing[3])])
    return f"sums {thing[0]} {_told(thing[1])}"


def read(text):
    """The thing, or the sums, of a text."""
    if not isinstance(text, str):
        raise InvalidOperation("a text is a string")
    lines = text.split("\n")
    head = _head_of(lines[0])
    if head is None:
        raise ParseError(0)
    for index, line in enumerate(lines):
        if index > 0 and not _is_line_behind(head, line):
            raise ParseError(index)
    first = _numbers(lines[0][len(head) + 1:])
    rows = tuple([_numbers(line) for line in lines[1:]])
    return _sums_told(head, first, rows) if head.startswith("sums") else _thing_told(head, first, rows)


def is_number(word):
    """Whether the word is an integer of at most forty digits, without a sign and without leading zeros."""
    if not 1 <= len(word) <= MAX_DIGITS or not all([sign in DIGITS for sign in word]):
        return False
    return word == "0" or word[0] != "0"


def _told(numbers):
    """The numbers as words, parted by blanks."""
    return " ".join([str(number) for number in numbers])


def _lines_of_thing(thing):
    """The lines of the text of a table, a web or a tournament."""
    if isinstance(thing, Table):
        return [f"table {thing.cap}"] + [_told(cells) for cells in thing.lines]
    if isinstance(thing, Web):
        return [f"web {thing.places}"] + [_told(tie) for tie in thing.ties]
    return ["tournament"] + [_told(losers) if len(losers) > 0 else NOBODY for losers in thing.beaten]


def _are_numbers(words, many):
    """Whether the words are so many integers; any number of them for None."""
    return all([is_number(word) for word in words]) and (many is None or len(words) == many)


def _head_of(line):
    """The words with which a first line begins, or None if it has not the form of one."""
    for head, many in HEADS.items():
        if line == head and _are_numbers([], many):
            return head
        if line.startswith(head + " ") and _are_numbers(line[len(head) + 1:].split(" "), many):
            return head
    return None


def _is_line_behind(head, line):
    """Whether a line has the form of one behind such a first line."""
    if head == "tournament" and line == NOBODY:
        return True
    return _are_numbers(line.split(" "), 2 if head == "web" else None)


def _numbers(line):
    """The tuple of the integers of a line; it is empty for a line without any."""
    return tuple([int(word) for word in line.split(" ") if is_number(word)])


def _sums_told(head, first, rows):
    """The sums that are told so."""
    sums = ("table",) + first + rows if head == "sums table" else (head[len("sums "):], first) + rows
    if not is_sums(sums):
        raise InvalidSums("no sums have this text")
    return sums


def _thing_told(head, first, rows):
    """The table, web or tournament that is told so."""
    if head == "table":
        return Table.of(first[0], rows)
    if head == "tournament":
        return Tournament.of(rows)
    web = Web.of(first[0], rows)
    if web.ties != rows:
        raise InvalidWeb("the ties of a web are told in ascending order")
    return web
