"""The sums of which this folder tells: those of tables and of webs, not of tournaments."""

from sumsalone.base.things import is_sums
from sumsalone.errors import InvalidSums


def check_both_sums(value):
    """Raise the error for what are no sums of a table or a web."""
    if not is_sums(value) or value[0] == "tournament":
        raise InvalidSums("no sums of a table or a web")
