"""Rows and their order [R.1] to [R.4]."""

from itertools import product

from sumsalone.base.things import Web
from sumsalone.errors import InvalidNumber, InvalidOperation, InvalidSums, TooMany
from sumsalone.rows import rows
from sumsalone.rows.rows import Order, bar, excess, is_bar, is_row, is_under, prefix_sums, sorted_row
from tests.kinds import EVERY, FORTY, NO_INTEGERS, NO_ROWS, THIRTY, Case
from tests.plain import reached_down, rows_up_to, sorted_rows, tops, under

GREAT = (THIRTY, 3, 10 ** 29, 0, 10 ** 29 + 7, 10 ** 15)
WRONG_NUMBERS = NO_INTEGERS + [-1, -FORTY, THIRTY + 1, FORTY]


def least_height(heights, k):
    """The least, over all integers s, of the greatest of M + s * (k - i): halving over s, as it is convex in s."""
    def height(s):
        return max(top + s * (k - i) for i, top in enumerate(heights))
    low, high = -10 ** 33, 10 ** 33
    while low < high:
        middle = (low + high) // 2
        if height(middle) <= height(middle + 1):
            high = middle
        else:
            low = middle + 1
    return height(low)


def joined(chosen):
    heights = [0] + [max(parts) for parts in zip(*[tops(row) for row in chosen])]
    sums = [least_height(heights, k) for k in range(len(heights))]
    return tuple(later - earlier for earlier, later in zip(sums, sums[1:]))


class Rows(Case):
    def test_constants(self):
        self.assertEqual((rows.MAX_LENGTH, rows.MAX_TOTAL), (64, 20))

    def test_rows(self):
        for value in ((0,), (3, 1, 2), (THIRTY,), (THIRTY,) * 64, (0,) * 64):
            self.assertIs(is_row(value), True)

    def test_no_rows(self):
        for value in NO_ROWS:
            self.assertIs(is_row(value), False)
        self.judges_every_kind(is_row)

    def test_sorted_row_and_prefix_sums(self):
        for row in rows_up_to(4, 3) + [GREAT, (5,)]:
            self.assertEqual(sorted_row(row), tuple(sorted(row, reverse=True)))
            self.assertEqual(prefix_sums(row), tuple(tops(row)))
        self.assertEqual(prefix_sums((THIRTY,) * 64)[-1], 64 * THIRTY)
        for wrong in NO_ROWS:
            self.fails(InvalidSums, sorted_row, wrong)
            self.fails(InvalidSums, prefix_sums, wrong)

    def test_excess(self):
        for row in rows_up_to(3, 4):
            for number in range(6):
                self.assertEqual(excess(row, number), sum(max(0, entry - number) for entry in row))
        self.assertEqual(excess(GREAT, 10 ** 29), THIRTY - 10 ** 29 + 7)
        self.assertEqual(excess((THIRTY, 0), THIRTY), 0)
        for wrong in WRONG_NUMBERS:
            self.fails_by_number(excess, wrong, (1, 2), wrong)
        self.first_decides(excess, [((1,), [1], InvalidSums), (0, -1, InvalidNumber)])

    def test_excess_tells_what_is_under(self):
        for one, other in product(sorted_rows(4, 6), repeat=2):
            told = all(excess(one, number) <= excess(other, number) for number in other)
            self.assertIs(is_under(one, other), told)


class Under(Case):
    def test_all_small_rows(self):
        for length, total in ((1, 3), (2, 4), (3, 5), (3, 6), (4, 6)):
            for other in sorted_rows(length, total):
                below = reached_down(other)
                for one in sorted_rows(length, total):
                    self.assertIs(is_under(one, other), one in below)

    def test_order_of_entries_does_not_matter(self):
        for one, other in product(rows_up_to(3, 3), repeat=2):
            self.assertIs(is_under(one, other), under(one, other))

    def test_unlike_lengths_and_totals(self):
        self.assertIs(is_under((1, 1), (2,)), False)
        self.assertIs(is_under((2,), (2, 0)), False)
        self.assertIs(is_under((1, 0), (1, 1)), False)
        self.assertIs(is_under((0, 0), (0, 0)), True)

    def test_great_rows(self):
        self.assertIs(is_under((THIRTY - 1,) * 64, (THIRTY,) * 32 + (THIRTY - 2,) * 32), True)
        self.assertIs(is_under((THIRTY,) * 32 + (THIRTY - 2,) * 32, (THIRTY - 1,) * 64), False)
        self.assertIs(is_under((THIRTY, THIRTY - 1), (THIRTY - 1, THIRTY)), True)

    def test_wrong_rows(self):
        for wrong in NO_ROWS:
            for call in (is_under, bar):
                self.fails(InvalidSums, call, wrong, (1,))
                self.fails(InvalidSums, call, (1,), wrong)
                self.fails(InvalidSums, call, wrong, None)
            self.fails(InvalidSums, is_bar, wrong, (1,), 1)
            self.fails(InvalidSums, is_bar, (1,), wrong, 1)
            self.fails(InvalidSums, is_bar, wrong, (1, 2), None)

    def test_bars(self):
        for length, total in ((1, 2), (3, 5), (4, 6)):
            for one, other in product(sorted_rows(length, total), repeat=2):
                bars = [k + 1 for k in range(length) if tops(one)[k] > tops(other)[k]]
                found = bar(one, other)
                if under(one, other):
                    self.assertIsNone(found)
                else:
                    self.assertIn(found, bars)
                for value in range(-1, length + 2):
                    self.assertIs(is_bar(one, other, value), value in bars)
        self.assertIs(is_bar((3, 0), (2, 1), 1), True)
        self.assertIs(is_bar((0, 3), (2, 1), 1), True)
        self.assertEqual(bar((THIRTY, 0), (THIRTY - 1, 1)), 1)

    def test_bars_of_unlike_rows(self):
        for call, more in ((bar, ()), (is_bar, (1,)), (is_bar, (None,))):
            self.fails(InvalidOperation, call, (1, 1), (2,), *more)
            self.fails(InvalidOperation, call, (1, 1), (2, 1), *more)
            self.fails(InvalidOperation, call, (2,), (2, 0), *more)

    def test_no_bars(self):
        for value in NO_INTEGERS + [0, -1, 2, 3, FORTY]:
            self.assertIs(is_bar((3, 0), (2, 1), value), False)
        self.judges_every_kind(is_bar, (3, 0), (2, 1))


class Orders(Case):
    def test_properties(self):
        for length, total in ((1, 0), (1, 9), (3, 7), (4, 6), (64, 5), (64, 130)):
            order = Order(length, total)
            self.assertEqual((order.length, order.total), (length, total))
            self.assertEqual(order.greatest, (total,) + (0,) * (length - 1))
            self.assertEqual((len(order.least), sum(order.least)), (length, total))
            self.assertLessEqual(max(order.least) - min(order.least), 1)
            self.assertEqual(order.least, tuple(sorted(order.least, reverse=True)))
        self.assertEqual(Order(3, THIRTY).least, (THIRTY // 3,) * 3)

    def test_wrong_arguments(self):
        for wrong in NO_INTEGERS + [0, -1, 65, FORTY]:
            self.fails_by_number(Order, wrong, wrong, 3)
        for wrong in WRONG_NUMBERS:
            self.fails_by_number(Order, wrong, 3, wrong)
        self.first_decides(Order, [(3, 0, InvalidNumber), (3, True, InvalidNumber)])

    def test_meet_and_join_of_two(self):
        for length, total in ((1, 4), (2, 5), (3, 6), (4, 6), (4, 8), (5, 7)):
            order = Order(length, total)
            every = sorted_rows(length, total)
            below = {row: {one for one in every if under(one, row)} for row in every}
            for one, other in product(every, repeat=2):
                lower = below[one] & below[other]
                meet = order.meet(one, other)
                self.assertIn(meet, lower)
                self.assertTrue(lower <= below[meet])
                upper = {row for row in every if one in below[row] and other in below[row]}
                join = order.join(one, other)
                self.assertIn(join, upper)
                self.assertTrue(all(join in below[row] for row in upper))

    def test_meet_and_join_of_three(self):
        order = Order(4, 7)
        every = sorted_rows(4, 7)
        below = {row: {one for one in every if under(one, row)} for row in every}
        for chosen in product(every, repeat=3):
            self.assertEqual(order.meet(*chosen), max(set.intersection(*[below[row] for row in chosen])))
            self.assertEqual(order.join(*chosen), min(row for row in every if set(chosen) <= below[row]))

    def test_meet_and_join_of_none_and_one(self):
        for order in (Order(1, 5), Order(4, 6), Order(5, THIRTY)):
            self.assertEqual((order.meet(), order.join()), (order.greatest, order.least))
        for row in ((1, 3, 2), (0, 0, 6), (2, 2, 2)):
            self.assertEqual(Order(3, 6).meet(row), tuple(sorted(row, reverse=True)))
            self.assertEqual(Order(3, 6).join(row), tuple(sorted(row, reverse=True)))

    def test_meet_and_join_do_not_ask_for_sorted_rows(self):
        order = Order(4, 6)
        for one, other in product([(1, 3, 1, 1), (1, 1, 1, 3)], [(0, 2, 2, 2), (2, 0, 2, 2)]):
            self.assertEqual(order.meet(one, other), (2, 2, 1, 1))
            self.assertEqual(order.join(one, other), (3, 2, 1, 0))

    def test_join_against_its_definition(self):
        for length, total in ((5, 9), (6, 12)):
            every = sorted_rows(length, total)
            order = Order(length, total)
            for one, other in product(every[::3], every[::2]):
                self.assertEqual(order.join(one, other), joined([one, other]))

    def test_great_rows(self):
        total = 3 * THIRTY // 5
        chosen = [(total - 11, 11, 0, 0, 0, 0, 0), (total // 2, total - total // 2, 0, 0, 0, 0, 0),
                  tuple([total // 5 - k for k in range(4)] + [total - 4 * (total // 5) + 6, 0, 0]),
                  Order(7, total).least, (total - 2 * (total // 3), total // 3, total // 3, 0, 0, 0, 0),
                  (total // 2 + 1,) + (total - total // 2 - 6, 1, 1, 1, 1, 1)]
        order = Order(7, total)
        for one, other in product(chosen, repeat=2):
            join, meet = order.join(one, other), order.meet(one, other)
            self.assertEqual(join, joined([one, other]))
            self.assertTrue(under(one, join) and under(other, join) and under(meet, one) and under(meet, other))
            self.assertEqual(tops(meet), [min(parts) for parts in zip(tops(one), tops(other))])
        self.assertEqual(order.join(*chosen[1:5]), joined(chosen[1:5]))

    def test_long_great_rows(self):
        one = tuple([THIRTY // 64 - 10 ** k for k in range(28)] + [0] * 36)
        other = tuple([sum(one) - 63 * (sum(one) // 70)] + [sum(one) // 70] * 63)
        order = Order(64, sum(one))
        self.assertEqual(order.join(one, other), joined([one, other]))
        self.assertTrue(under(order.meet(one, other), one) and under(order.meet(one, other), other))

    def test_wrong_rows(self):
        order = Order(2, 3)
        for wrong in NO_ROWS + [(3,), (3, 0, 0), (2, 2), (1, 1)]:
            for call in (order.meet, order.join):
                self.fails(InvalidOperation, call, wrong)
                self.fails(InvalidOperation, call, (2, 1), wrong)
                self.fails(InvalidOperation, call, wrong, (2, 1), (1, 2))
            self.fails(InvalidOperation, order.covered, wrong)

    def test_covered(self):
        for length, total in ((1, 3), (2, 5), (3, 6), (4, 6), (4, 8), (5, 7), (6, 6)):
            every = sorted_rows(length, total)
            order = Order(length, total)
            below = {row: {one for one in every if one != row and under(one, row)} for row in every}
            for row in every:
                covers = [one for one in below[row] if not any(one in below[two] for two in below[row])]
                self.assertEqual(order.covered(row), tuple(sorted(covers, reverse=True)))
                self.assertEqual(order.covered(row[::-1]), order.covered(row))

    def test_covered_of_great_rows(self):
        self.assertEqual(Order(3, THIRTY).covered((THIRTY, 0, 0)), ((THIRTY - 1, 1, 0),))
        half = THIRTY // 4
        row = (half + 1,) * 2 + (half,) + (half - 1,)
        self.assertEqual(Order(4, sum(row)).covered(row), ((half + 1, half, half, half),))
        self.assertEqual(Order(64, 64).covered((1,) * 64), ())

    def test_rows(self):
        for length, total in ((1, 0), (1, 20), (2, 3), (3, 7), (4, 6), (6, 5), (5, 0)):
            self.assertEqual(list(Order(length, total).rows()), sorted_rows(length, total)[::-1])
        self.assertEqual(len(list(Order(64, 20).rows())), 627)
        self.assertEqual(next(iter(Order(64, 20).rows())), (20,) + (0,) * 63)

    def test_too_many_rows(self):
        for total in (21, 22, THIRTY):
            yielded = Order(2, total).rows()
            self.fails(TooMany, next, yielded, keeps=("limit", 20))
        self.assertEqual(len(list(Order(3, 20).rows())), 44)

    def test_rows_come_one_by_one(self):
        order = Order(4, 6)
        one, other = order.rows(), order.rows()
        self.assertEqual([next(one), next(one), next(other)], [(6, 0, 0, 0), (5, 1, 0, 0), (6, 0, 0, 0)])

    def test_contains(self):
        order = Order(3, 4)
        for row in rows_up_to(3, 4):
            self.assertIs(row in order, sum(row) == 4)
            self.assertIs(row not in order, sum(row) != 4)
        for value in EVERY + [(4, 0), (4, 0, 0, 0), (5, -1, 0), (True, 3, 0), [4, 0, 0]]:
            self.assertIs(value in order, False)

    def test_words_and_comparison(self):
        order = Order(3, 6)
        self.assertEqual((str(order), str(Order(1, 0))), ("rows of 3 entries, total 6", "rows of 1 entries, total 0"))
        self.assert_compares(order, Order(3, 6), [Order(4, 6), Order(3, 5), (3, 6), Web(3)] + EVERY)

    def test_never_changes(self):
        order = Order(3, 6)
        self.assert_not_iterable(order)
        for name in ("length", "total", "greatest", "least"):
            with self.assertRaises(AttributeError):
                setattr(order, name, 1)
