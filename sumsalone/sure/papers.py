"""Papers of sums of any kind: a thing that has them, or a bar that shows that there is none."""

from sumsalone.tables.making import is_table_paper, table_paper
from sumsalone.webs.rows import is_web_paper, web_paper
from sumsalone.wins.scores import is_score_paper, score_paper


def paper_of(sums):
    """A paper of the sums: ("made", thing), or a bar."""
    if sums[0] == "table":
        return table_paper(sums)
    if sums[0] == "web":
        return web_paper(sums[1])
    return score_paper(sums[1])


def is_bar_of(sums, value):
    """Whether the value is a paper of the sums that tells of no thing."""
    if sums[0] == "table":
        is_paper = is_table_paper(sums, value)
    elif sums[0] == "web":
        is_paper = is_web_paper(sums[1], value)
    else:
        is_paper = is_score_paper(sums[1], value)
    return is_paper and value[0] != "made"
