"""Short ways to the same answers, that use nothing of the package."""

from itertools import combinations, product


def sorted_rows(length, total):
    """All sorted rows of a length and a total."""
    return sorted({tuple(sorted(row, reverse=True)) for row in product(range(total + 1), repeat=length)
                   if sum(row) == total})


def rows_up_to(length, most):
    """All rows of a length with entries up to the most."""
    return list(product(range(most + 1), repeat=length))


def tops(row):
    ordered = sorted(row, reverse=True)
    return [sum(ordered[:k]) for k in range(1, len(ordered) + 1)]


def under(one, other):
    return (len(one) == len(other) and sum(one) == sum(other)
            and all(low <= high for low, high in zip(tops(one), tops(other))))


def unit_moves(row):
    """All rows that come by moving one unit from an entry to another one."""
    for i, j in product(range(len(row)), repeat=2):
        if i != j and row[i] > 0:
            moved = list(row)
            moved[i] -= 1
            moved[j] += 1
            yield tuple(moved)


def reached_down(row):
    """All sorted rows that units carried from entries to lesser ones lead to."""
    seen = {tuple(sorted(row, reverse=True))}
    waiting = list(seen)
    while waiting:
        one = waiting.pop()
        for i, j in product(range(len(one)), repeat=2):
            if one[i] >= one[j] + 2:
                moved = list(one)
                moved[i] -= 1
                moved[j] += 1
                lower = tuple(sorted(moved, reverse=True))
                if lower not in seen:
                    seen.add(lower)
                    waiting.append(lower)
    return seen


def subsets(many):
    for size in range(many + 1):
        yield from combinations(range(many), size)
