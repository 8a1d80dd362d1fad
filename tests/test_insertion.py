"""Insertion [I.1] to [I.3]."""

from itertools import product
from random import Random

from sumsalone.base.things import Table
from sumsalone.errors import InvalidFilling, InvalidNumber, InvalidOperation, InvalidTable, NothingToUndo, TooMany
from sumsalone.fill.fillings import count_fillings, entry_counts, shape_of, turned_shape
from sumsalone.fill.insertion import Press, fillings_of, table_of
from tests.kinds import EVERY, FORTY, NO_INTEGERS, NO_TABLES, Case
from tests.plain import all_tables
from tests.test_fillings import NO_FILLINGS, all_shapes, fillings_told, is_filled, turned_told


def put_told(columns, entry):
    """Put an entry into the columns of left, as the words tell; the row and the index of the new cell."""
    for index, column in enumerate(columns + [[]]):
        at = [place for place, other in enumerate(column) if other >= entry]
        if not at:
            if index == len(columns):
                columns.append([])
            columns[index].append(entry)
            return len(columns[index]) - 1, index
        column[at[0]], entry = entry, column[at[0]]


def rows_of_columns(columns):
    rows = [[] for _ in range(len(columns[0]) if columns else 0)]
    for column in columns:
        for row, entry in zip(rows, column):
            row.append(entry)
    return tuple(tuple(row) for row in rows)


def pressed_told(pairs):
    """Left and right behind these pairs, and the places of the new entries of right."""
    columns, right, places = [], [], []
    for line, column in pairs:
        row, index = put_told(columns, column)
        while len(right) <= index:
            right.append([])
        right[index].append(line)
        assert len(right[index]) - 1 == row
        places.append((index, row))
    return rows_of_columns(columns), tuple(tuple(row) for row in right), places


def pairs_of(lines):
    return tuple((i, j) for i, line in enumerate(lines) for j, cell in enumerate(line) if cell)


def some_pairs(lines, columns, random):
    limit = random.random()
    return tuple(pair for pair in product(range(lines), range(columns)) if random.random() < limit)


class Presses(Case):
    def test_all_small_tables_pair_by_pair(self):
        for lines, columns in ((1, 1), (1, 3), (3, 1), (2, 2), (2, 4), (3, 3), (4, 2)):
            for table in all_tables(1, lines, columns):
                press = Press(lines, columns)
                pairs = pairs_of(table)
                left, right, places = pressed_told(pairs)
                for at, pair in enumerate(pairs):
                    self.assertEqual(press.put(*pair), places[at])
                self.assertEqual((press.left, press.right, press.pairs), (left, right, pairs))
                self.assertTrue(is_filled(left) and is_filled(right))
                self.assertEqual(turned_shape(shape_of(left)), shape_of(right))
                self.assertEqual(entry_counts(left, columns), tuple(sum(column) for column in zip(*table)))
                self.assertEqual(entry_counts(right, lines), tuple(sum(line) for line in table))

    def test_long_rows_of_calls(self):
        random = Random(2)
        for _ in range(120):
            lines, columns = random.randint(1, 6), random.randint(1, 6)
            press, pairs = Press(lines, columns), ()
            for pair in some_pairs(lines, columns, random):
                press.put(*pair)
                pairs += (pair,)
                self.assertEqual((press.left, press.right), pressed_told(pairs)[:2])
                if random.random() < 0.2:
                    many = random.randint(0, min(3, len(pairs)))
                    self.assertEqual(press.back(many=many), pairs[len(pairs) - many:])
                    pairs = pairs[:len(pairs) - many]
                self.assertEqual((press.left, press.right), pressed_told(pairs)[:2])
                self.assertEqual((press.pairs, len(press)), (pairs, len(pairs)))
                self.assertEqual(str(press), f"press of {lines} lines, {columns} columns, {len(pairs)} pairs")

    def test_pairs_can_be_put_in_again_behind_those_taken_back(self):
        press = Press(2, 2)
        press.put(0, 0)
        press.put(1, 1)
        self.assertEqual(press.back(), ((1, 1),))
        self.assertEqual(press.put(0, 1), (0, 1))
        self.assertEqual(press.back(many=2), ((0, 0), (0, 1)))
        self.assertEqual((press.left, press.right, press.pairs, len(press)), ((), (), (), 0))
        self.assertEqual(press.put(0, 0), (0, 0))

    def test_taking_back_is_told_from_both_fillings(self):
        for table in all_tables(1, 3, 3):
            pairs = pairs_of(table)
            for many in range(len(pairs) + 1):
                press = Press.of(Table.of(1, table))
                self.assertEqual(press.back(many=many), pairs[len(pairs) - many:])
                self.assertEqual((press.left, press.right), pressed_told(pairs[:len(pairs) - many])[:2])

    def test_greatest_press(self):
        press = Press.of(Table(1, *[(1,) * 6] * 6))
        self.assertEqual((len(press), press.left, press.right),
                         (36, tuple((j,) * 6 for j in range(6)), tuple((i,) * 6 for i in range(6))))
        self.assertEqual(len(press.back(many=36)), 36)
        self.assertEqual((press.left, press.right), ((), ()))
        self.assertEqual((press.lines, press.columns), (6, 6))

    def test_wrong_sizes(self):
        for wrong in NO_INTEGERS + [0, -1, 7, FORTY]:
            self.fails_by_number(Press, wrong, wrong, 1)
            self.fails_by_number(Press, wrong, wrong, 9)
            self.fails_by_number(Press, wrong, 1, wrong)
        self.first_decides(Press, [(6, 7, InvalidNumber), (6, 0, InvalidNumber)])

    def unchanged(self, press, error, call, *arguments, keeps=None, **named):
        before = (press.lines, press.columns, press.left, press.right, press.pairs)
        self.fails(error, call, *arguments, keeps=keeps, **named)
        self.assertEqual((press.lines, press.columns, press.left, press.right, press.pairs), before)

    def test_refused_calls_change_nothing(self):
        press = Press(2, 3)
        press.put(0, 1)
        press.put(1, 0)
        for wrong in NO_INTEGERS + [-1, 2, FORTY]:
            self.unchanged(press, InvalidNumber, press.put, wrong, 0, keeps=("value", wrong))
            self.unchanged(press, InvalidNumber, press.put, wrong, 3, keeps=("value", wrong))
        for wrong in NO_INTEGERS + [-1, 3, FORTY]:
            self.unchanged(press, InvalidNumber, press.put, 1, wrong, keeps=("value", wrong))
            self.unchanged(press, InvalidNumber, press.put, 0, wrong, keeps=("value", wrong))
        for pair in ((1, 0), (0, 2), (0, 1), (0, 0)):
            self.unchanged(press, InvalidOperation, press.put, *pair)
        for wrong in NO_INTEGERS + [-1, -FORTY]:
            self.unchanged(press, InvalidNumber, press.back, many=wrong, keeps=("value", wrong))
        for many in (3, 4, FORTY):
            self.unchanged(press, NothingToUndo, press.back, many=many, keeps=("many", many))
        self.assertEqual((press.back(many=0), len(press)), ((), 2))
        single = Press(2, 2)
        single.put(0, 1)
        for pair in ((0, 1), (0, 0)):
            self.unchanged(single, InvalidOperation, single.put, *pair)
        self.fails(NothingToUndo, Press(1, 1).back, keeps=("many", 1))
        self.assertEqual(press.put(1, 1), (0, 1))

    def test_comparison(self):
        press = Press(2, 2)
        press.put(0, 1)
        same = Press.of(Table(1, (0, 1), (0, 0)))
        other = Press(2, 2)
        other.put(1, 0)
        longer = Press(2, 2)
        longer.put(0, 1)
        longer.put(1, 0)
        self.assert_compares(press, same, [Press(2, 2), other, Press.of(Table(1, (0, 1))), longer, press.pairs,
                                           Press.of(Table(1, (0, 1, 0), (0, 0, 0)))] + EVERY)
        longer.back()
        self.assertIs(longer == press, True)

    def test_gives_no_access(self):
        press = Press.of(Table(1, (0, 1), (1, 0)))
        self.assert_not_iterable(press)
        for name in ("left", "right", "pairs", "lines", "columns"):
            with self.assertRaises(AttributeError):
                setattr(press, name, ())
        for value in (press.left, press.right, press.pairs):
            self.assertIs(type(value), tuple)
            self.assertTrue(all(type(part) is tuple for part in value))
        kept = press.left
        press.back(many=2)
        self.assertEqual(kept, ((0, 1),))


class Tables(Case):
    def test_there_and_back(self):
        for lines, columns in ((1, 1), (1, 4), (4, 1), (2, 3), (3, 2), (3, 3)):
            found = {}
            for cells in all_tables(1, lines, columns):
                table = Table.of(1, cells)
                left, right = fillings_of(table)
                self.assertEqual((left, right), pressed_told(pairs_of(cells))[:2])
                self.assertEqual(table_of(lines, columns, left, right), table)
                found[(left, right)] = cells
            self.assertEqual(len(found), 2 ** (lines * columns))

    def test_each_two_fillings_are_those_of_a_table(self):
        pairs = 0
        for total in range(10):
            for shape in all_shapes(total):
                lefts = [one for some in fillings_told(shape, 3).values() for one in some] if len(shape) <= 3 else []
                turned = turned_told(shape)
                rights = [one for some in fillings_told(turned, 3).values() for one in some] if len(turned) <= 3 else []
                for left, right in product(lefts, rights):
                    table = table_of(3, 3, left, right)
                    self.assertEqual(fillings_of(table), (left, right))
                    pairs += 1
        self.assertEqual(pairs, 512)

    def test_great_tables(self):
        random = Random(6)
        for _ in range(150):
            lines, columns = random.randint(1, 6), random.randint(1, 6)
            pairs = some_pairs(lines, columns, random)
            table = Table.of(1, tuple(tuple(int((i, j) in pairs) for j in range(columns)) for i in range(lines)))
            self.assertEqual(fillings_of(table), pressed_told(pairs)[:2])
            self.assertEqual(table_of(lines, columns, *fillings_of(table)), table)
            self.assertEqual(Press.of(table).pairs, pairs)

    def test_number_of_tables(self):
        for lines, columns in (((2, 1, 1), (1, 2, 1)), ((2, 2), (2, 1, 1)), ((1, 1, 1), (1, 1, 1)), ((3, 0), (1, 1, 1))):
            tables = [cells for cells in all_tables(1, len(lines), len(columns))
                      if tuple(map(sum, cells)) == lines and tuple(map(sum, zip(*cells))) == columns]
            self.assertEqual(len(tables), sum(count_fillings(shape, lines) * count_fillings(turned_told(shape), columns)
                                              for shape in all_shapes(sum(lines))))

    def test_no_fillings_of_tables(self):
        for call in (fillings_of, Press.of):
            for wrong in NO_TABLES:
                self.fails(InvalidTable, call, wrong)
            self.fails(InvalidOperation, call, Table(2, (1, 0)))
            self.fails(InvalidOperation, call, Table(2, (1,) * 7))
            for cells in ([(1,) * 7], [(1,)] * 7, [(0,) * 12] * 12):
                self.fails(TooMany, call, Table(1, *cells), keeps=("limit", 6))

    def test_no_table_of_fillings(self):
        good = (2, 3, ((0, 1), (2,)), ((0, 0), (1,)))
        self.assertEqual(fillings_of(table_of(*good)), good[2:])
        for wrong in NO_INTEGERS + [0, -1, 7, FORTY]:
            self.fails_by_number(table_of, wrong, wrong, 3, *good[2:])
            self.fails_by_number(table_of, wrong, 2, wrong, *good[2:])
        for wrong in NO_FILLINGS + [((3,),), ((0, 3), (2,))]:
            self.fails(InvalidFilling, table_of, 2, 3, wrong, good[3])
        for wrong in NO_FILLINGS + [((2,),), ((0, 0), (2,))]:
            self.fails(InvalidFilling, table_of, 2, 3, good[2], wrong)
        for left, right in ((((0, 1),), ((0, 1),)), ((), ((0,),)), (((0,), (1,)), ((0,), (1,))), (((0, 1), (2,)), ((0, 0),))):
            self.fails(InvalidFilling, table_of, 2, 3, left, right)
        self.assertEqual(table_of(2, 3, (), ()), Table(1, (0, 0, 0), (0, 0, 0)))
        self.first_decides(table_of, [(2, 0, InvalidNumber), (3, 7, InvalidNumber), (good[2], ((3,),), InvalidFilling),
                                      (good[3], ((2,),), InvalidFilling)], (2, 3, ((0,),), ((0, 0),)))
