"""Rows turned, and rows near by [V.1] to [V.4]."""

from itertools import product

from sumsalone.errors import InvalidNumber, InvalidOperation, InvalidSums
from sumsalone.rows.rows import Order
from sumsalone.rows.turned import filled_up, is_closed, is_less, least_within, moves_needed, turned
from tests.kinds import FORTY, NO_INTEGERS, NO_ROWS, THIRTY, Case
from tests.plain import rows_up_to, sorted_rows, tops, under, unit_distances

GREAT = (THIRTY, 3, 10 ** 29, 0, 10 ** 29 + 7, 10 ** 15)


def turned_plainly(row, many, cap):
    """Column by column, the units of the entries are put into lines of so many units at most."""
    lines = [0] * many
    for entry in row:
        for k in range(many):
            put = min(cap, entry)
            lines[k] += put
            entry -= put
    return tuple(lines)


def first_lines(one, other):
    """Whether each prefix sum of the first row is at most that of the second one, also the last."""
    return len(one) == len(other) and all(low <= high for low, high in zip(tops(one), tops(other)))


class Turned(Case):
    def test_small_rows(self):
        for row in rows_up_to(3, 4) + rows_up_to(1, 9):
            for many, cap in product((1, 2, 3, 5), (1, 2, 3, 7)):
                if max(row) > cap * many:
                    self.fails(InvalidOperation, turned, row, many, cap=cap)
                    self.fails(InvalidOperation, is_closed, row, many, cap=cap)
                    continue
                there = turned(row, many, cap=cap)
                self.assertEqual(there, turned_plainly(row, many, cap))
                self.assertEqual((there, sum(there)), (tuple(sorted(there, reverse=True)), sum(row)))
                back = turned_plainly(there, len(row), cap)
                self.assertIs(is_closed(row, many, cap=cap), back == tuple(sorted(row, reverse=True)))

    def test_cap_is_one_if_not_told(self):
        self.assertEqual(turned((3, 1, 1), 3), (3, 1, 1))
        self.assertEqual(turned((3, 3), 4), (2, 2, 2, 0))
        self.fails(InvalidOperation, turned, (3,), 2)
        for row in rows_up_to(4, 4):
            self.assertIs(is_closed(row, 4), True)
        self.assertIs(is_closed((1, 1), 1), True)

    def test_turned_rows_are_closed(self):
        for row, cap in product(rows_up_to(3, 6), (2, 3)):
            self.assertIs(is_closed(turned(row, 4, cap=cap), 3, cap=cap), True)

    def test_which_rows_come_back(self):
        self.assertIs(is_closed((1, 1), 2, cap=2), False)
        self.assertIs(is_closed((2, 0), 2, cap=2), True)
        self.assertIs(is_closed((0, 2), 2, cap=2), True)
        self.assertIs(is_closed((3, 3), 3, cap=2), False)
        self.assertIs(is_closed((3, 2), 3, cap=2), True)

    def test_under_the_turned_one(self):
        for cap in (1, 2):
            for total in range(7):
                lines = [row for row in sorted_rows(3, total) if max(row) <= 2 * cap]
                columns = [row for row in sorted_rows(2, total) if max(row) <= 3 * cap]
                for row, other in product(lines, columns):
                    self.assertIs(under(row, turned(other, 3, cap=cap)), under(other, turned(row, 2, cap=cap)))

    def test_turning_a_join_gives_a_meet(self):
        order = Order(4, 6)
        for one, other in product(sorted_rows(4, 6), repeat=2):
            there = turned(order.join(one, other), 6)
            self.assertEqual(there, Order(6, 6).meet(turned(one, 6), turned(other, 6)))

    def test_great_rows(self):
        row = (THIRTY,) * 64
        self.assertEqual(turned(row, 2, cap=THIRTY), (64 * THIRTY, 0))
        self.assertEqual(turned(row, 64, cap=THIRTY // 64 + 1)[0], 64 * (THIRTY // 64 + 1))
        self.assertEqual(sum(turned(row, 64, cap=THIRTY // 64 + 1)), 64 * THIRTY)
        self.assertIs(is_closed(row, 1, cap=THIRTY), True)
        self.assertIs(is_closed(GREAT, 1, cap=THIRTY), False)
        self.assertEqual(turned(GREAT, 3, cap=10 ** 30 // 2)[2], 0)
        self.fails(InvalidOperation, turned, (THIRTY,), 1, cap=THIRTY - 1)
        self.assertEqual((turned((0,) * 64, 64), turned((64,), 64)), ((0,) * 64, (1,) * 64))

    def test_wrong_arguments(self):
        for call in (turned, is_closed):
            for wrong in NO_ROWS:
                self.fails(InvalidSums, call, wrong, 1)
                self.fails(InvalidSums, call, wrong, 0, cap=0)
            for wrong in NO_INTEGERS + [0, -1, 65, FORTY]:
                self.fails_by_number(call, wrong, (1,), wrong)
                self.fails_by_number(call, wrong, (99,), wrong, cap=0)
            for wrong in NO_INTEGERS + [0, -1, THIRTY + 1, FORTY]:
                self.fails_by_number(call, wrong, (1,), 1, cap=wrong)
                self.fails_by_number(call, wrong, (999,), 1, cap=wrong)
            self.assertRaises(TypeError, call, (1,), 1, 1)


class Moves(Case):
    def test_moves_needed_against_all_moves(self):
        for length, total in ((1, 3), (2, 4), (3, 5), (4, 4)):
            for one in sorted_rows(length, total):
                far = unit_distances(one)
                for other in sorted_rows(length, total):
                    fewest = min(many for row, many in far.items() if under(row, other))
                    self.assertEqual(moves_needed(one, other), fewest)
                    self.assertEqual(moves_needed(one[::-1], other), fewest)
                    self.assertEqual(moves_needed(one, other[::-1]), fewest)

    def test_least_within_against_all_moves(self):
        for length, total in ((1, 3), (2, 5), (3, 6), (4, 5), (5, 4)):
            for one in sorted_rows(length, total):
                far = unit_distances(one)
                for many in range(total + 2):
                    near = {tuple(sorted(row, reverse=True)) for row in far if far[row] <= many}
                    least = least_within(one, many)
                    self.assertIn(least, near)
                    self.assertTrue(all(under(least, row) for row in near))
                    self.assertEqual(least_within(one[::-1], many), least)

    def test_great_rows(self):
        self.assertEqual(moves_needed((THIRTY, 0, 0), (0, THIRTY - 5, 5)), 5)
        self.assertEqual(moves_needed((1,) * 64, (64,) + (0,) * 63), 0)
        self.assertEqual(moves_needed((64,) + (0,) * 63, (1,) * 64), 63)
        self.assertEqual(least_within((THIRTY, 0, 0), 10), (THIRTY - 10, 5, 5))
        self.assertEqual(least_within((THIRTY, 0, 0), THIRTY), (THIRTY // 3,) * 3)
        self.assertEqual(least_within((THIRTY, THIRTY, 1, 0), 3), (THIRTY - 1, THIRTY - 2, 2, 2))
        self.assertEqual(least_within((THIRTY,) * 64, THIRTY), (THIRTY,) * 64)
        self.assertEqual(least_within((5,), THIRTY), (5,))
        self.assertEqual(least_within((0,) * 64, 0), (0,) * 64)

    def test_levels_of_great_rows(self):
        row = tuple(10 ** k for k in range(30)) + (0,) * 34
        for many in (0, 1, 10 ** 15, 10 ** 29, THIRTY):
            least = least_within(row, many)
            taken = sum(a - b for a, b in zip(sorted(row, reverse=True), least) if a > b)
            self.assertEqual(sum(least), sum(row))
            self.assertLessEqual(taken, many)
            self.assertEqual(moves_needed(row, least), taken)
            if taken < many:
                self.assertLessEqual(least[0] - least[-1], 1)

    def test_wrong_arguments(self):
        for wrong in NO_ROWS:
            self.fails(InvalidSums, moves_needed, wrong, (1,))
            self.fails(InvalidSums, moves_needed, (1, 1), wrong)
            self.fails(InvalidSums, least_within, wrong, 1)
        for wrong in NO_INTEGERS + [-1, -FORTY, THIRTY + 1, FORTY]:
            self.fails_by_number(least_within, wrong, (1, 2), wrong)
        self.first_decides(least_within, [((1,), (), InvalidSums), (1, None, InvalidNumber)])
        for one, other in (((1, 1), (2,)), ((1, 1), (1, 2)), ((2,), (2, 0)), ((0,), (1,))):
            self.fails(InvalidOperation, moves_needed, one, other)


class Less(Case):
    def test_is_less(self):
        for one, other in product(rows_up_to(3, 3), repeat=2):
            self.assertIs(is_less(one, other), first_lines(one, other))
        self.assertIs(is_less((1,), (1, 1)), False)
        self.assertIs(is_less((1, 1), (2,)), False)
        self.assertIs(is_less((THIRTY,) * 64, (THIRTY,) * 64), True)
        self.assertIs(is_less((THIRTY, 0), (THIRTY - 1, THIRTY)), True)
        self.assertIs(is_less((1, THIRTY), (THIRTY - 1, 5)), False)

    def test_filled_up(self):
        for length, most in ((1, 4), (2, 4), (3, 3), (4, 2)):
            for one in sorted({tuple(sorted(row, reverse=True)) for row in rows_up_to(length, most)}):
                for total in range(sum(one), sum(one) + 6):
                    found = filled_up(one, (total,) + (0,) * (length - 1))
                    every = [row for row in sorted_rows(length, total) if all(a <= b for a, b in zip(one, row))]
                    self.assertIn(found, every)
                    self.assertTrue(all(under(found, row) for row in every))
                    self.assertEqual(filled_up(one[::-1], Order(length, total).least), found)

    def test_less_rows_come_under_when_filled_up(self):
        for one, other in product(rows_up_to(3, 3), repeat=2):
            if sum(one) <= sum(other):
                self.assertIs(is_less(one, other), under(filled_up(one, other), other))

    def test_great_rows(self):
        self.assertEqual(filled_up((0, 0, 5), (THIRTY, THIRTY, 0)), (2 * THIRTY // 3,) * 3)
        self.assertEqual(filled_up((THIRTY, 0, 5), (THIRTY, 7, 7)), (THIRTY, 7, 7))
        self.assertEqual(filled_up((THIRTY, 0, 5), (THIRTY, 6, 0)), (THIRTY, 5, 1))
        self.assertEqual(filled_up((THIRTY,) * 63 + (0,), (THIRTY,) * 64), (THIRTY,) * 64)
        self.assertEqual(filled_up((3,), (THIRTY,)), (THIRTY,))

    def test_wrong_arguments(self):
        for wrong in NO_ROWS:
            for call in (is_less, filled_up):
                self.fails(InvalidSums, call, wrong, (1,))
                self.fails(InvalidSums, call, (1, 1), wrong)
                self.fails(InvalidSums, call, wrong, None)
        self.fails(InvalidOperation, filled_up, (1, 1), (2,))
        self.fails(InvalidOperation, filled_up, (1,), (2, 0))
        self.fails(InvalidOperation, filled_up, (1, 2), (1, 1))
