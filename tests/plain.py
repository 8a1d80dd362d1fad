"""Short ways to the same answers, that use nothing of the package."""

from itertools import combinations, permutations, product


def sorted_rows(length, total):
    """All sorted rows of a length and a total."""
    return sorted({tuple(sorted(row, reverse=True)) for row in product(range(total + 1), repeat=length)
                   if sum(row) == total})


def rows_up_to(length, most):
    """All rows of a length with entries up to the most."""
    return list(product(range(most + 1), repeat=length))


def tops(row):
    ordered = sorted(row, reverse=True)
    return [sum(ordered[:k]) for k in range(1, len(ordered) + 1)]


def under(one, other):
    return (len(one) == len(other) and sum(one) == sum(other)
            and all(low <= high for low, high in zip(tops(one), tops(other))))


def unit_moves(row):
    """All rows that come by moving one unit from an entry to another one."""
    for i, j in product(range(len(row)), repeat=2):
        if i != j and row[i] > 0:
            moved = list(row)
            moved[i] -= 1
            moved[j] += 1
            yield tuple(moved)


def reached_down(row):
    """All sorted rows that units carried from entries to lesser ones lead to."""
    seen = {tuple(sorted(row, reverse=True))}
    waiting = list(seen)
    while waiting:
        one = waiting.pop()
        for i, j in product(range(len(one)), repeat=2):
            if one[i] >= one[j] + 2:
                moved = list(one)
                moved[i] -= 1
                moved[j] += 1
                lower = tuple(sorted(moved, reverse=True))
                if lower not in seen:
                    seen.add(lower)
                    waiting.append(lower)
    return seen


def subsets(many):
    for size in range(many + 1):
        yield from combinations(range(many), size)


def alike(one, other):
    return sorted(one) == sorted(other)


def arranged_alike(one, other):
    return len(one) == len(other) and not any(
        one[i] > one[j] and other[i] < other[j] for i, j in product(range(len(one)), repeat=2))


def behind(row, road):
    """The row behind a road; the road has to be one."""
    left = list(row)
    for i, j, many in road:
        assert i != j and many >= 1 and left[i] >= left[j] + 2 * many
        left[i] -= many
        left[j] += many
    return tuple(left)


def unit_roads(row):
    """For each row that a road from this one leads to, the fewest units, by single units."""
    many = {row: 0}
    waiting = [row]
    for one in waiting:
        for i, j in product(range(len(one)), repeat=2):
            if one[i] >= one[j] + 2:
                moved = list(one)
                moved[i] -= 1
                moved[j] += 1
                if tuple(moved) not in many:
                    many[tuple(moved)] = many[one] + 1
                    waiting.append(tuple(moved))
    return many


def unit_distances(row):
    """For each row of the same length and total, the fewest units that have to be moved to it."""
    many = {row: 0}
    waiting = [row]
    for one in waiting:
        for moved in unit_moves(one):
            if moved not in many:
                many[moved] = many[one] + 1
                waiting.append(moved)
    return many


def all_tables(cap, lines, columns):
    """All tables of this size, as tuples of lines."""
    return product(product(range(cap + 1), repeat=columns), repeat=lines)


def sums_of_lines(lines):
    return tuple(sum(line) for line in lines), tuple(sum(column) for column in zip(*lines))


def held(cap, many, columns):
    return sum(min(cap * many, number) for number in columns)


def all_webs(places):
    """The tuples of ties of all webs with so many places."""
    pairs = list(combinations(range(places), 2))
    for chosen in product((False, True), repeat=len(pairs)):
        yield tuple(pair for pair, tied in zip(pairs, chosen) if tied)


def degrees_of(places, ties):
    return tuple(sum(place in tie for tie in ties) for place in range(places))


def lack_of(degrees, places):
    many = len(places)
    others = [degrees[place] for place in range(len(degrees)) if place not in places]
    return sum(degrees[place] for place in places) - many * (many - 1) - sum(min(many, entry) for entry in others)


def falling(row):
    return tuple(sorted(row, reverse=True))


def is_possible_web(degrees):
    """Whether some web has these degrees, by taking a greatest entry away again and again."""
    left = falling(degrees)
    while left:
        many, others = left[0], left[1:]
        if many > len(others) or many and others[many - 1] == 0:
            return False
        left = falling([entry - (place < many) for place, entry in enumerate(others)])
    return True


def all_words(many):
    return [(0,) + letters for letters in product((0, 1), repeat=many - 1)]


def ties_of_word(word):
    return tuple(sorted((ahead, place) for place in range(len(word)) if word[place] for ahead in range(place)))


def words_of(places, ties):
    """All words whose web is this one with its places in some order, by trying all orders."""
    tied = {frozenset(tie) for tie in ties}
    found = set()
    for order in permutations(range(places)):
        rows = [[frozenset((order[at], other)) in tied for other in order[:at]] for at in range(places)]
        if all(all(row) or not any(row) for row in rows):
            found.add(tuple(int(bool(row) and all(row)) for row in rows))
    return found


def all_tournaments(many):
    """The tuples of beaten players of all tournaments of so many players."""
    pairs = list(combinations(range(many), 2))
    for wins in product((False, True), repeat=len(pairs)):
        beaten = [[] for _ in range(many)]
        for (i, j), won in zip(pairs, wins):
            beaten[i if won else j].append(j if won else i)
        yield tuple([tuple(sorted(row)) for row in beaten])


def deficit_of(scores, players):
    return len(players) * (len(players) - 1) // 2 - sum(scores[player] for player in players)


def reach_of(beaten, player):
    """All players to whom this one leads, with itself."""
    reached = {player}
    waiting = [player]
    for one in waiting:
        for other in beaten[one]:
            if other not in reached:
                reached.add(other)
                waiting.append(other)
    return reached


def parts_of_tournament(beaten):
    """The parts, the one that beats all others first."""
    reached = [reach_of(beaten, player) for player in range(len(beaten))]
    parts = {tuple(j for j in range(len(beaten)) if j in reached[i] and i in reached[j]) for i in range(len(beaten))}
    return tuple(sorted(parts, key=lambda part: -len(reached[part[0]])))


def rings_of_three(beaten):
    triples = permutations(range(len(beaten)), 3)
    return tuple(ring for ring in triples if ring[0] == min(ring)
                 and all(ring[k] in beaten[ring[k - 1]] for k in range(3)))
