"""Short ways to the same answers, that use nothing of the package."""

from itertools import combinations, permutations, product


def sorted_rows(length, total):
    """All sorted rows of a length and a total."""
    return sorted({tuple(sorted(row, reverse=True)) for row in product(range(total + 1), repeat=length)
                   if sum(row) == total})


def rows_up_to(length, most):
    """All rows of a length with entries up to the most."""
    return list(product(range(most + 1), repeat=length))


def tops(row):
    ordered = sorted(row, reverse=True)
    return [sum(ordered[:k]) for k in range(1, len(ordered) + 1)]


def under(one, other):
    return (len(one) == len(other) and sum(one) == sum(other)
            and all(low <= high for low, high in zip(tops(one), tops(other))))


def unit_moves(row):
    """All rows that come by moving one unit from an entry to another one."""
    for i, j in product(range(len(row)), repeat=2):
        if i != j and row[i] > 0:
            moved = list(row)
            moved[i] -= 1
            moved[j] += 1
            yield tuple(moved)


def reached_down(row):
    """All sorted rows that units carried from entries to lesser ones lead to."""
    seen = {tuple(sorted(row, reverse=True))}
    waiting = list(seen)
    while waiting:
        one = waiting.pop()
        for i, j in product(range(len(one)), repeat=2):
            if one[i] >= one[j] + 2:
                moved = list(one)
                moved[i] -= 1
                moved[j] += 1
                lower = tuple(sorted(moved, reverse=True))
                if lower not in seen:
                    seen.add(lower)
                    waiting.append(lower)
    return seen


def subsets(many):
    for size in range(many + 1):
        yield from combinations(range(many), size)


def alike(one, other):
    return sorted(one) == sorted(other)


def arranged_alike(one, other):
    return len(one) == len(other) and not any(
        one[i] > one[j] and other[i] < other[j] for i, j in product(range(len(one)), repeat=2))


def behind(row, road):
    """The row behind a road; the road has to be one."""
    left = list(row)
    for i, j, many in road:
        assert i != j and many >= 1 and left[i] >= left[j] + 2 * many
        left[i] -= many
        left[j] += many
    return tuple(left)


def unit_roads(row):
    """For each row that a road from this one leads to, the fewest units, by single units."""
    many = {row: 0}
    waiting = [row]
    for one in waiting:
        for i, j in product(range(len(one)), repeat=2):
            if one[i] >= one[j] + 2:
                moved = list(one)
                moved[i] -= 1
                moved[j] += 1
                if tuple(moved) not in many:
                    many[tuple(moved)] = many[one] + 1
                    waiting.append(tuple(moved))
    return many


def unit_distances(row):
    """For each row of the same length and total, the fewest units that have to be moved to it."""
    many = {row: 0}
    waiting = [row]
    for one in waiting:
        for moved in unit_moves(one):
            if moved not in many:
                many[moved] = many[one] + 1
                waiting.append(moved)
    return many


def all_tables(cap, lines, columns):
    """All tables of this size, as tuples of lines."""
    return product(product(range(cap + 1), repeat=columns), repeat=lines)


def sums_of_lines(lines):
    return tuple(sum(line) for line in lines), tuple(sum(column) for column in zip(*lines))


def held(cap, many, columns):
    return sum(min(cap * many, number) for number in columns)


def all_webs(places):
    """The tuples of ties of all webs with so many places."""
    pairs = list(combinations(range(places), 2))
    for chosen in product((False, True), repeat=len(pairs)):
        yield tuple(pair for pair, tied in zip(pairs, chosen) if tied)


def degrees_of(places, ties):
    return tuple(sum(place in tie for tie in ties) for place in range(places))


def lack_of(degrees, places):
    many = len(places)
    others = [degrees[place] for place in range(len(degrees)) if place not in places]
    return sum(degrees[place] for place in places) - many * (many - 1) - sum(min(many, entry) for entry in others)


def falling(row):
    return tuple(sorted(row, reverse=True))


def is_possible_web(degrees):
    """Whether some web has these degrees, by taking a greatest entry away again and again."""
    left = falling(degrees)
    while left:
        many, others = left[0], left[1:]
        if many > len(others) or many and others[many - 1] == 0:
            return False
        left = falling([entry - (place < many) for place, entry in enumerate(others)])
    return True


def all_words(many):
    return [(0,) + letters for letters in product((0, 1), repeat=many - 1)]


def ties_of_word(word):
    return tuple(sorted((ahead, place) for place in range(len(word)) if word[place] for ahead in range(place)))


def words_of(places, ties):
    """All words whose web is this one with its places in some order, by trying all orders."""
    tied = {frozenset(tie) for tie in ties}
    found = set()
    for order in permutations(range(places)):
        rows = [[frozenset((order[at], other)) in tied for other in order[:at]] for at in range(places)]
        if all(all(row) or not any(row) for row in rows):
            found.add(tuple(int(bool(row) and all(row)) for row in rows))
    return found


def all_tournaments(many):
    """The tuples of beaten players of all tournaments of so many players."""
    pairs = list(combinations(range(many), 2))
    for wins in product((False, True), repeat=len(pairs)):
        beaten = [[] for _ in range(many)]
        for (i, j), won in zip(pairs, wins):
            beaten[i if won else j].append(j if won else i)
        yield tuple([tuple(sorted(row)) for row in beaten])


def deficit_of(scores, players):
    return len(players) * (len(players) - 1) // 2 - sum(scores[player] for player in players)


def reach_of(beaten, player):
    """All players to whom this one leads, with itself."""
    reached = {player}
    waiting = [player]
    for one in waiting:
        for other in beaten[one]:
            if other not in reached:
                reached.add(other)
                waiting.append(other)
    return reached


def parts_of_tournament(beaten):
    """The parts, the one that beats all others first."""
    reached = [reach_of(beaten, player) for player in range(len(beaten))]
    parts = {tuple(j for j in range(len(beaten)) if j in reached[i] and i in reached[j]) for i in range(len(beaten))}
    return tuple(sorted(parts, key=lambda part: -len(reached[part[0]])))


def rings_of_three(beaten):
    triples = permutations(range(len(beaten)), 3)
    return tuple(ring for ring in triples if ring[0] == min(ring)
                 and all(ring[k] in beaten[ring[k - 1]] for k in range(3)))


# What follows tells things by tuples ("table", cap, lines), ("web", places, ties), ("tournament", beaten).


def all_things(kind, *sizes):
    """All things of a kind: sizes are the cap and the numbers of lines and columns, of places, or of players."""
    if kind == "table":
        cap, lines, columns = sizes
        return [("table", cap, table) for table in all_tables(cap, lines, columns)]
    if kind == "web":
        return [("web", sizes[0], ties) for ties in all_webs(*sizes)]
    return [("tournament", beaten) for beaten in all_tournaments(*sizes)]


def by_sums(things):
    """The dict from all sums of these things to the lists of those that have them."""
    found = {}
    for thing in things:
        found.setdefault(sums_of_told(thing), []).append(thing)
    return found


def sums_of_told(thing):
    if thing[0] == "table":
        return thing[:2] + sums_of_lines(thing[2])
    if thing[0] == "web":
        return "web", degrees_of(*thing[1:])
    return "tournament", tuple(len(losers) for losers in thing[1])


def row_of_told(thing):
    return sums_of_told(thing)[2 if thing[0] == "table" else 1]


def with_cells(lines, changes):
    cells = [list(line) for line in lines]
    for (line, column), change in changes.items():
        cells[line][column] += change
    return tuple(tuple(line) for line in cells)


def with_ties(ties, less, more):
    left = [tie for tie in ties if tie not in [tuple(sorted(pair)) for pair in less]]
    return tuple(sorted(left + [tuple(sorted(pair)) for pair in more]))


def with_results(beaten, pairs):
    """Each of these pairs of a winner and a loser turned about."""
    sets = [set(losers) for losers in beaten]
    for winner, loser in pairs:
        sets[winner].remove(loser)
        sets[loser].add(winner)
    return tuple(tuple(sorted(losers)) for losers in sets)


def moves_of(thing, i, j):
    """All things behind a move from i to j."""
    if thing[0] == "table":
        _, cap, lines = thing
        return [("table", cap, with_cells(lines, {(i, k): -1, (j, k): 1})) for k in range(len(lines[0]))
                if lines[i][k] > 0 and lines[j][k] < cap]
    if thing[0] == "web":
        _, places, ties = thing
        return [("web", places, with_ties(ties, [(i, k)], [(j, k)])) for k in range(places) if k not in (i, j)
                and tuple(sorted((i, k))) in ties and tuple(sorted((j, k))) not in ties]
    beaten = thing[1]
    found = [("tournament", with_results(beaten, [(i, j)]))] if j in beaten[i] else []
    return found + [("tournament", with_results(beaten, [(i, k), (k, j)])) for k in range(len(beaten))
                    if k in beaten[i] and j in beaten[k]]


def moves_down(thing):
    """All things to which a move leads down."""
    row = row_of_told(thing)
    return [lower for i, j in permutations(range(len(row)), 2) if row[i] >= row[j] + 2
            for lower in moves_of(thing, i, j)]


def exchanges_of(thing):
    """All things that come by an exchange, as often as there are ways to tell it."""
    if thing[0] == "table":
        _, cap, lines = thing
        return [("table", cap, with_cells(lines, {(i, k): -1, (i, l): 1, (h, l): -1, (h, k): 1}))
                for i, h in combinations(range(len(lines)), 2) for k, l in permutations(range(len(lines[0])), 2)
                if lines[i][k] > 0 and lines[h][l] > 0 and lines[i][l] < cap and lines[h][k] < cap]
    if thing[0] == "web":
        _, places, ties = thing
        tied = {frozenset(tie) for tie in ties}
        return [("web", places, with_ties(ties, [(a, b), (c, d)], [(b, c), (d, a)]))
                for a, b, c, d in permutations(range(places), 4) if {a, b} in tied and {c, d} in tied
                and {b, c} not in tied and {d, a} not in tied]
    return [("tournament", with_results(thing[1], list(zip(ring, ring[1:] + ring[:1]))))
            for ring in rings_of_three(thing[1])]


def units_between(one, other):
    """The two dicts of units: those that the first thing has more, and those that it has fewer."""
    more, fewer = {}, {}
    if one[0] == "table":
        for i, j in product(range(len(one[2])), range(len(one[2][0]))):
            number = one[2][i][j] - other[2][i][j]
            if number:
                (more if number > 0 else fewer)[(i, j)] = abs(number)
    elif one[0] == "web":
        more = {tie: 1 for tie in one[2] if tie not in other[2]}
        fewer = {tie: 1 for tie in other[2] if tie not in one[2]}
    else:
        more = {(i, j): 1 for i, losers in enumerate(one[1]) for j in losers if j not in other[1][i]}
    return more, fewer


def gap_of(one, other):
    more, fewer = units_between(one, other)
    return sum(more.values()) + sum(fewer.values())


def units_of_way(kind, way):
    """The units along a closed way, in its order: each with True if the first thing has more of it."""
    told = []
    for at, end in enumerate(way):
        following = way[(at + 1) % len(way)]
        if kind == "table":
            told.append(((end, following) if at % 2 == 0 else (following, end), at % 2 == 0))
        elif kind == "web":
            told.append((tuple(sorted((end, following))), at % 2 == 0))
        else:
            told.append(((end, following), True))
    return told


def splits(one, other):
    """All splits of two things with equal sums whose ways begin with the least unit that is left."""
    more, fewer = units_between(one, other)
    return _splits(one[0], dict(more), dict(fewer))


def _splits(kind, more, fewer):
    if not more and not fewer:
        return [()]
    found = []
    start, follows = min(more)
    for end, then in {(start, follows), (start, follows) if kind != "web" else (follows, start)}:
        for way, left_more, left_fewer in _ways(kind, (end, then), _without(more, (start, follows)), fewer):
            found.extend((way,) + rest for rest in _splits(kind, left_more, left_fewer))
    return found


def _without(units, unit):
    return {one: many - (one == unit) for one, many in units.items() if many > (one == unit)}


def _ways(kind, way, more, fewer):
    """All ways that go on like this and close, each with the units that are left; a table's columns stand at odd places."""
    found = []
    takes_more = kind == "tournament" or len(way) % 2 == 1
    for unit in (more if takes_more else fewer):
        if kind == "table":
            end, following = unit if takes_more else unit[::-1]
            choices = [(end, following)]
        else:
            choices = [unit, unit[::-1]] if kind == "web" else [unit]
        for end, following in choices:
            if end != way[-1]:
                continue
            left = (_without(more, unit), fewer) if takes_more else (more, _without(fewer, unit))
            if following == way[0] and (kind == "tournament" or not takes_more):
                found.append((way,) + left)
            found.extend(_ways(kind, way + (following,), *left))
    return found


def places_of(sums):
    if sums[0] == "table":
        return list(product(range(len(sums[2])), range(len(sums[3]))))
    return list(combinations(range(len(sums[1])), 2))


def number_at(thing, place):
    """The cell, or 1 for a tie, or 1 if the first player has won."""
    i, j = place
    if thing[0] == "table":
        return thing[2][i][j]
    return int(place in thing[2]) if thing[0] == "web" else int(j in thing[1][i])


def bars_of(sums):
    """All papers of the sums that tell of no thing."""
    if sums[0] == "table":
        _, cap, lines, columns = sums
        return [(kind, some) for kind, row, other in (("lines", lines, columns), ("columns", columns, lines))
                for some in subsets(len(row)) if sum(row[line] for line in some) > held(cap, len(some), other)]
    row = sums[1]
    if sums[0] == "web":
        odd = [("odd", sum(row))] if sum(row) % 2 else []
        return odd + [("bar", places) for places in subsets(len(row)) if lack_of(row, places) > 0]
    return [("bar", players) for players in subsets(len(row)) if players and (
        deficit_of(row, players) > 0 or len(players) == len(row) and deficit_of(row, players) != 0)]


def parts_of_things(sums, things):
    """The parts of sums, by the places that are free in all things with them."""
    free = [place for place in places_of(sums) if len({number_at(thing, place) for thing in things}) > 1]
    if sums[0] == "table":
        ends = [("line", i) for i in range(len(sums[2]))] + [("column", j) for j in range(len(sums[3]))]
        joined = [{("line", i), ("column", j)} for i, j in free]
    else:
        ends = list(range(len(sums[1])))
        joined = [set(place) for place in free]
    parts = [{end} for end in ends]
    for pair in joined:
        touched = [part for part in parts if part & pair]
        parts = [part for part in parts if not part & pair] + [set().union(*touched)]
    if sums[0] != "table":
        return tuple(sorted(tuple(sorted(part)) for part in parts))
    return tuple(sorted(tuple(tuple(sorted(index for kind, index in part if kind == wanted))
                              for wanted in ("line", "column")) for part in parts))


def parts_below(thing):
    """All parts of a table or a web."""
    if thing[0] == "table":
        ranges = [product(*[range(cell + 1) for cell in line]) for line in thing[2]]
        return [("table", thing[1], lines) for lines in product(*ranges)]
    return [("web", thing[1], tuple(ties)) for size in range(len(thing[2]) + 1)
            for ties in combinations(thing[2], size)]
