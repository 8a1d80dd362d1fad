"""Shapes and fillings [F.1] to [F.3]."""

from itertools import islice, permutations, product
from random import Random

from sumsalone.errors import InvalidFilling, InvalidNumber, InvalidOperation, InvalidSums
from sumsalone.fill.fillings import (MAX_CELLS, MAX_ENTRIES, _can_be_filled, count_fillings, each_filling, entry_counts, is_filling,
                                     is_shape, shape_of, turned_shape)
from sumsalone.fill.shares import shares
from tests.kinds import EVERY, FORTY, NO_INTEGERS, NO_TUPLES, Case
from tests.plain import under

NO_SHAPES = NO_TUPLES + [(0,), (1, 2), (2, 1, 0), (-1,), (True,), (2, True), (None,), ("a",), (43,), (42, 1), (1,) * 43,
                         (FORTY,), ((1,),), ([1],), (22, 21), ({},), (1, 1, 2)]
NO_FILLINGS = NO_TUPLES + [((),), ((0,), ()), (0,), ([0],), ((0,), [1]), ((8,),), ((-1,),), ((True,),), ((0, False),),
                           ((1, 0),), ((0,), (0,)), ((0,), (1, 2)), ((0, 1), (1, 1)), ((1,), (0,)), ((None,),), (("0",),),
                           (((0,),),), ((0,) * 43,), ((0,) * 40, (1,) * 3), ((FORTY,),), ((0, 0), (1,), (1,)), ((0, 2, 1),)]
NO_COUNTS = NO_TUPLES + [(0,) * 9, (43,), (-1,), (True,), (1, False), (None,), ("1",), ((1,),), ([1],), (1, 2, FORTY)]


def all_shapes(total, longest=None):
    """All shapes with this sum, by their first integers."""
    if total == 0:
        return [()]
    most = total if longest is None else min(longest, total)
    return [(first,) + rest for first in range(1, most + 1) for rest in all_shapes(total - first, first)]


def turned_told(shape):
    return tuple(sum(many > index for many in shape) for index in range(max(shape + (0,))))


def rows_of(shape, entries):
    rows = []
    for many in shape:
        rows.append(entries[:many])
        entries = entries[many:]
    return tuple(rows)


def is_filled(rows):
    """Whether rows of a shape are a filling, cell by cell."""
    return all(index == 0 or row[index - 1] <= entry for row in rows for index, entry in enumerate(row)) and all(
        rows[at - 1][index] < entry for at, row in enumerate(rows) if at > 0 for index, entry in enumerate(row))


def fillings_told(shape, many):
    """The dict from sums to the ascending lists of all fillings with entries below a number."""
    found = {}
    for entries in product(range(many), repeat=sum(shape)):
        rows = rows_of(shape, entries)
        if is_filled(rows):
            found.setdefault(tuple(entries.count(entry) for entry in range(many)), []).append(rows)
    return found


def all_counts(total, many):
    return [counts for counts in product(range(total + 1), repeat=many) if sum(counts) == total]


def padded(row, many):
    return tuple(row) + (0,) * (many - len(row))


def some_shapes(many, random):
    """Shapes of 42 cells with at most eight rows."""
    for _ in range(many):
        rows = [0] * random.randint(1, 8)
        for _ in range(42):
            rows[random.randrange(len(rows)) if random.random() < 0.7 else 0] += 1
        yield tuple(sorted([row for row in rows if row], reverse=True))


class Shapes(Case):
    def test_constants(self):
        self.assertEqual((MAX_CELLS, MAX_ENTRIES), (42, 8))

    def test_is_shape(self):
        for total in range(8):
            shapes = all_shapes(total)
            for length in range(4):
                for value in product(range(total + 2), repeat=length):
                    if sum(value) == total:
                        self.assertIs(is_shape(value), value in shapes)
        for value in ((), (42,), (1,) * 42, (21, 21), (6,) * 7, (9, 8, 7, 6, 5, 4, 3)):
            self.assertIs(is_shape(value), True)
        for value in NO_SHAPES:
            self.assertIs(is_shape(value), False)
        self.judges_every_kind(is_shape)

    def test_turned_there_and_back(self):
        for total in range(13):
            for shape in all_shapes(total):
                self.assertEqual(turned_shape(shape), turned_told(shape))
                self.assertEqual(turned_shape(turned_shape(shape)), shape)
        self.assertEqual([turned_shape(()), turned_shape((42,)), turned_shape((1,) * 42)], [(), (1,) * 42, (42,)])
        for shape in some_shapes(200, Random(1)):
            self.assertEqual(turned_shape(turned_shape(shape)), shape)

    def test_wrong_shapes(self):
        for wrong in NO_SHAPES:
            self.fails(InvalidFilling, turned_shape, wrong)
            self.fails(InvalidFilling, count_fillings, wrong, (1,))
            self.fails(InvalidFilling, count_fillings, wrong, None)
            self.fails(InvalidFilling, next, each_filling(wrong, (1,)))
            self.fails(InvalidFilling, next, each_filling(wrong, None))


class Fillings(Case):
    def test_is_filling(self):
        for total in range(6):
            for shape in all_shapes(total):
                for entries in product(range(4), repeat=total):
                    rows = rows_of(shape, entries)
                    self.assertIs(is_filling(rows), is_filled(rows))
                    if is_filled(rows):
                        self.assertEqual(shape_of(rows), shape)
                        counts = tuple(entries.count(entry) for entry in range(8))
                        for many in range(9):
                            if sum(counts[:many]) == total:
                                self.assertEqual(entry_counts(rows, many), counts[:many])
                            else:
                                self.fails(InvalidOperation, entry_counts, rows, many)

    def test_ends(self):
        self.assertEqual([is_filling(()), shape_of(()), entry_counts((), 0), entry_counts((), 3)],
                         [True, (), (), (0, 0, 0)])
        great = tuple((row,) * 5 for row in range(8))
        self.assertEqual([is_filling(great), shape_of(great), entry_counts(great, 8)], [True, (5,) * 8, (5,) * 8])
        self.assertIs(is_filling(tuple((row,) * 6 for row in range(8))), False)
        self.assertIs(is_filling(((7,) * 42,)), True)

    def test_wrong_fillings(self):
        for wrong in NO_FILLINGS:
            self.assertIs(is_filling(wrong), False)
            self.fails(InvalidFilling, shape_of, wrong)
            self.fails(InvalidFilling, entry_counts, wrong, 8)
            self.fails(InvalidFilling, entry_counts, wrong, None)
        self.judges_every_kind(is_filling)
        for wrong in NO_INTEGERS + [-1, 9, FORTY, -FORTY]:
            self.fails_by_number(entry_counts, wrong, ((0,),), wrong)
            self.fails_by_number(entry_counts, wrong, ((7,),), wrong)
        self.fails(InvalidOperation, entry_counts, ((0, 1),), 1)
        self.first_decides(entry_counts, [(((0,),), ((1, 0),), InvalidFilling), (1, 9, InvalidNumber)], (((5,),), 5))


class Counts(Case):
    def test_against_all_tuples(self):
        for total in range(8):
            for shape in all_shapes(total):
                for many in range(5 if total < 6 else 4):
                    found = fillings_told(shape, many)
                    for sums in all_counts(total, many):
                        fillings = found.get(sums, [])
                        self.assertEqual(count_fillings(shape, sums), len(fillings))
                        self.assertEqual(list(each_filling(shape, sums)), sorted(fillings))
                        top = tuple(sorted(sums, reverse=True))
                        length = max(many, len(shape))
                        self.assertIs(len(fillings) > 0, under(padded(top, length), padded(shape, length)))

    def test_other_totals(self):
        for shape, sums in (((2, 1), (3, 1)), ((), (1,)), ((1,), ()), ((2,), (1,)), ((42,), (42,) * 8), ((3,), (42, 42))):
            self.assertEqual((count_fillings(shape, sums), list(each_filling(shape, sums))), (0, []))
        self.assertEqual((count_fillings((), ()), list(each_filling((), ()))), (1, [()]))
        self.assertEqual((count_fillings((), (0, 0)), list(each_filling((), (0,) * 8))), (1, [()]))
        self.assertEqual(count_fillings((1,) * 9, (2,) + (1,) * 7), 0)
        self.assertEqual(list(each_filling((1,) * 9, (2,) + (1,) * 7)), [])

    def test_wrong_sums(self):
        for wrong in NO_COUNTS:
            self.fails(InvalidSums, count_fillings, (1,), wrong)
            self.fails(InvalidSums, next, each_filling((1,), wrong))
            self.fails(InvalidSums, count_fillings, (), wrong)
        self.first_decides(count_fillings, [((1,), (0,), InvalidFilling), ((1,), (43,), InvalidSums)], ((1,), (2, 3)))
        for shape, sums in (((0,), (43,)), (None, None)):
            self.fails(InvalidFilling, next, each_filling(shape, sums))

    def test_errors_come_with_the_first_one(self):
        for shape, sums, error in ((None, (1,), InvalidFilling), ((1,), [1], InvalidSums)):
            waiting = each_filling(shape, sums)
            self.fails(error, next, waiting)

    def test_order_of_the_sums_does_not_matter(self):
        random = Random(5)
        for total in (4, 6, 9):
            for shape in all_shapes(total):
                sums = [0] * 4
                for _ in range(total):
                    sums[random.randrange(4)] += 1
                counts = {count_fillings(shape, order) for order in permutations(sums)}
                self.assertEqual(len(counts), 1)
        for shape in some_shapes(6, random):
            sums = [random.choice((5, 6)) for _ in range(8)]
            sums[0] += 42 - sum(sums)
            counts = {count_fillings(shape, tuple(random.sample(sums, 8))) for _ in range(5)}
            self.assertEqual(len(counts), 1)

    def test_more_even_sums_have_more_fillings(self):
        for total in (5, 6):
            for shape in all_shapes(total):
                for one, other in product(all_counts(total, 3), repeat=2):
                    if under(one, other):
                        self.assertGreaterEqual(count_fillings(shape, one), count_fillings(shape, other))
        for shape in some_shapes(50, Random(8)):
            self.assertEqual(count_fillings(shape, shape), 1)
            self.assertEqual(list(each_filling(shape, shape)), [tuple((row,) * many for row, many in enumerate(shape))])

    def test_greatest_shapes(self):
        """Forty-two cells and eight numbers: told within seconds, and the first fillings at once."""
        even = (5, 5, 5, 5, 5, 5, 6, 6)
        for shape in list(some_shapes(20, Random(9))) + [(16, 11, 8, 4, 2, 1), (42,), (21, 21), (6,) * 7, (14, 10, 8, 6, 4)]:
            many = count_fillings(shape, even)
            first = list(islice(each_filling(shape, even), 30))
            self.assertEqual(len(first), min(many, 30))
            self.assertEqual(first, sorted(set(first)))
            for filling in first:
                self.assertTrue(is_filled(filling))
                self.assertEqual((shape_of(filling), entry_counts(filling, 8)), (shape, even))

    def test_each_one_by_one(self):
        for shape, sums in (((6, 6), (3, 3, 3, 3)), ((4, 3, 2), (2, 2, 2, 2, 1)), ((5, 2, 2, 1), (2,) * 5), ((7, 1), (1,) * 8)):
            found = list(each_filling(shape, sums))
            self.assertEqual(found, sorted(set(found)))
            self.assertEqual(len(found), count_fillings(shape, sums))
            self.assertTrue(all(is_filled(filling) and entry_counts(filling, len(sums)) == sums for filling in found))

    def test_no_beginning_in_vain(self):
        """What is told to be the beginning of a filling is that of one: so the next filling is always found at once."""
        for shape in [shape for total in range(1, 8) for shape in all_shapes(total)]:
            many = 4 if sum(shape) < 6 else 3
            found = fillings_told(shape, many)
            for sums in all_counts(sum(shape), many):
                words = {tuple(entry for row in filling for entry in row) for filling in found.get(sums, [])}
                begun = {word[:length] for word in words for length in range(len(word) + 1)}
                for length in range(sum(shape) + 1):
                    for word in product(range(many), repeat=length):
                        rows = rows_of(shape, word)
                        if is_filled(rows) and all(word.count(entry) <= sums[entry] for entry in range(many)):
                            self.assertIs(_can_be_filled(shape, sums, word), word in begun)

    def test_other_totals_of_great_shapes(self):
        for shape, sums in (((6,) * 7, (5,) * 8), ((6,) * 7, (6,) * 8), ((12, 10, 8, 6, 4, 2), (5,) * 8),
                            ((14, 14, 14), (42,) * 8), ((21, 21), (0,) * 7 + (42,))):
            self.assertEqual((list(each_filling(shape, sums)), count_fillings(shape, sums)), ([], 0))

    def test_shapes_of_one_row_or_column(self):
        self.assertEqual(list(each_filling((3,), (1, 0, 2))), [((0, 2, 2),)])
        self.assertEqual(list(each_filling((1, 1), (1, 0, 1))), [((0,), (2,))])
        self.assertEqual(count_fillings((1,) * 8, (1,) * 8), 1)
        self.assertEqual(count_fillings((42,), (42,)), 1)

    def test_values_of_every_kind(self):
        for value in EVERY:
            self.assertIs(is_shape(value), value == () or isinstance(value, tuple) and value not in NO_SHAPES
                          and all(type(many) is int and many > 0 for many in value)
                          and list(value) == sorted(value, reverse=True) and sum(value) <= 42)


class Shares(Case):
    def test_against_all_tuples(self):
        for bounds in product(range(4), repeat=3):
            every = list(product(*[range(bound + 1) for bound in bounds]))
            for total in range(-2, 12):
                self.assertEqual(shares(total, bounds), [share for share in every if sum(share) == total])
        self.assertEqual([shares(0, []), shares(1, []), shares(-1, [])], [[()], [], []])
