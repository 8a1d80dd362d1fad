"""Short ways to the same answers, that use nothing of the package."""

from itertools import combinations, product


def sorted_rows(length, total):
    """All sorted rows of a length and a total."""
    return sorted({tuple(sorted(row, reverse=True)) for row in product(range(total + 1), repeat=length)
                   if sum(row) == total})


def rows_up_to(length, most):
    """All rows of a length with entries up to the most."""
    return list(product(range(most + 1), repeat=length))


def tops(row):
    ordered = sorted(row, reverse=True)
    return [sum(ordered[:k]) for k in range(1, len(ordered) + 1)]


def under(one, other):
    return (len(one) == len(other) and sum(one) == sum(other)
            and all(low <= high for low, high in zip(tops(one), tops(other))))


def unit_moves(row):
    """All rows that come by moving one unit from an entry to another one."""
    for i, j in product(range(len(row)), repeat=2):
        if i != j and row[i] > 0:
            moved = list(row)
            moved[i] -= 1
            moved[j] += 1
            yield tuple(moved)


def reached_down(row):
    """All sorted rows that units carried from entries to lesser ones lead to."""
    seen = {tuple(sorted(row, reverse=True))}
    waiting = list(seen)
    while waiting:
        one = waiting.pop()
        for i, j in product(range(len(one)), repeat=2):
            if one[i] >= one[j] + 2:
                moved = list(one)
                moved[i] -= 1
                moved[j] += 1
                lower = tuple(sorted(moved, reverse=True))
                if lower not in seen:
                    seen.add(lower)
                    waiting.append(lower)
    return seen


def subsets(many):
    for size in range(many + 1):
        yield from combinations(range(many), size)


def alike(one, other):
    return sorted(one) == sorted(other)


def arranged_alike(one, other):
    return len(one) == len(other) and not any(
        one[i] > one[j] and other[i] < other[j] for i, j in product(range(len(one)), repeat=2))


def behind(row, road):
    """The row behind a road; the road has to be one."""
    left = list(row)
    for i, j, many in road:
        assert i != j and many >= 1 and left[i] >= left[j] + 2 * many
        left[i] -= many
        left[j] += many
    return tuple(left)


def unit_roads(row):
    """For each row that a road from this one leads to, the fewest units, by single units."""
    many = {row: 0}
    waiting = [row]
    for one in waiting:
        for i, j in product(range(len(one)), repeat=2):
            if one[i] >= one[j] + 2:
                moved = list(one)
                moved[i] -= 1
                moved[j] += 1
                if tuple(moved) not in many:
                    many[tuple(moved)] = many[one] + 1
                    waiting.append(tuple(moved))
    return many


def unit_distances(row):
    """For each row of the same length and total, the fewest units that have to be moved to it."""
    many = {row: 0}
    waiting = [row]
    for one in waiting:
        for moved in unit_moves(one):
            if moved not in many:
                many[moved] = many[one] + 1
                waiting.append(moved)
    return many


def all_tables(cap, lines, columns):
    """All tables of this size, as tuples of lines."""
    return product(product(range(cap + 1), repeat=columns), repeat=lines)


def sums_of_lines(lines):
    return tuple(sum(line) for line in lines), tuple(sum(column) for column in zip(*lines))


def held(cap, many, columns):
    return sum(min(cap * many, number) for number in columns)


def all_webs(places):
    """The tuples of ties of all webs with so many places."""
    pairs = list(combinations(range(places), 2))
    for chosen in product((False, True), repeat=len(pairs)):
        yield tuple(pair for pair, tied in zip(pairs, chosen) if tied)


def degrees_of(places, ties):
    return tuple(sum(place in tie for tie in ties) for place in range(places))


def lack_of(degrees, places):
    many = len(places)
    others = [degrees[place] for place in range(len(degrees)) if place not in places]
    return sum(degrees[place] for place in places) - many * (many - 1) - sum(min(many, entry) for entry in others)
