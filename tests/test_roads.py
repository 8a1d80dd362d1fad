"""Roads of units [U.1], [U.2]."""

from itertools import product
from random import Random

from sumsalone.base.things import Web
from sumsalone.errors import InvalidOperation, InvalidSums
from sumsalone.rows.roads import after, arranged, fewest_units, is_arranged_alike, is_road, road, units
from tests.kinds import EVERY, FORTY, NO_INTEGERS, NO_ROWS, NO_TUPLES, THIRTY, Case
from tests.plain import alike, arranged_alike, behind, rows_up_to, under, unit_roads

SMALL = [rows_up_to(1, 3), rows_up_to(2, 5), rows_up_to(3, 4), rows_up_to(4, 2)]
NO_STEPS = NO_TUPLES + [(), (0,), (0, 1), (0, 1, 1, 1), (0, 0, 1), (1, 1, 1), (0, 1, 0), (0, 1, -1), (-1, 1, 1),
                        (0, -1, 1), (0, 64, 1), (64, 0, 1), (True, 0, 1), (0, True, 1), (0, 1, True), (0, 1, None),
                        ("0", 1, 1), (0, 1, "1"), (0, 1, (1,)), ((0,), 1, 1), (0, 1, THIRTY + 1), (0, FORTY, 1),
                        (False, 1, 1), [0, 1, 1], (0, Web(1), 1), ((0, 1, 1),)]


def great_pair(length):
    """A sorted row with great entries, and one under it that has them dealt out a little."""
    row = tuple(THIRTY - k * 10 ** 27 for k in range(length))
    mean, left = divmod(sum(row), length)
    return row, tuple(mean + (1 if k < left else 0) for k in range(length))


class Arranged(Case):
    def test_is_arranged_alike(self):
        for every in SMALL:
            for one, other in product(every, repeat=2):
                self.assertIs(is_arranged_alike(one, other), arranged_alike(one, other))

    def test_unlike_lengths(self):
        self.assertIs(is_arranged_alike((1, 0), (1, 0, 0)), False)
        self.assertIs(is_arranged_alike((1,), (1, 1)), False)

    def test_arranged(self):
        for every in SMALL:
            for row, like in product(every, repeat=2):
                order = sorted(range(len(like)), key=lambda place: (-like[place], place))
                wanted = dict(zip(order, sorted(row, reverse=True)))
                self.assertEqual(arranged(row, like), tuple(wanted[place] for place in range(len(row))))
                self.assertTrue(arranged_alike(arranged(row, like), like))

    def test_equal_entries_count_by_their_index(self):
        self.assertEqual(arranged((0, 1, 2, 3), (5, 5, 5, 5)), (3, 2, 1, 0))
        self.assertEqual(arranged((0, 1, 2, 3), (1, 5, 1, 5)), (1, 3, 0, 2))
        self.assertEqual(arranged((THIRTY, 0), (0, 1)), (0, THIRTY))

    def test_wrong_rows(self):
        for wrong in NO_ROWS:
            for call in (is_arranged_alike, arranged, road, fewest_units):
                self.fails(InvalidSums, call, wrong, (1,))
                self.fails(InvalidSums, call, (1,), wrong)
                self.fails(InvalidSums, call, (1, 2), wrong)
                self.fails(InvalidSums, call, wrong, wrong)
        self.fails(InvalidOperation, arranged, (1, 2), (1,))
        self.fails(InvalidOperation, arranged, (1,), (1, 0))


class Roads(Case):
    def test_after(self):
        self.assertEqual(after((5, 1, 0), ()), (5, 1, 0))
        self.assertEqual(after((5, 1, 0), ((0, 2, 1), (0, 1, 1))), (3, 2, 1))
        self.assertEqual(after((0, 6), ((1, 0, 3),)), (3, 3))
        self.assertEqual(after((THIRTY, 1), ((0, 1, THIRTY // 2 - 1),)), (THIRTY - THIRTY // 2 + 1, THIRTY // 2))

    def test_after_takes_steps_that_fit(self):
        for wrong in (((0, 1, 3),), ((1, 0, 1),), ((0, 1, 2), (0, 1, 1)), ((0, 3, 1),), ((0, 2, 1), (2, 0, 1))):
            self.fails(InvalidOperation, after, (5, 1, 0), wrong)
        for wrong in NO_STEPS:
            self.fails(InvalidOperation, after, (9, 1, 0), (wrong,))
            self.fails(InvalidOperation, after, (9, 1, 0), ((0, 1, 1), wrong))
        for wrong in NO_TUPLES + [[(0, 1, 1)], {(0, 1, 1): 1}]:
            self.fails(InvalidOperation, after, (9, 1, 0), wrong)
        for wrong in NO_ROWS:
            self.fails(InvalidSums, after, wrong, ())
            self.fails(InvalidSums, after, wrong, None)

    def test_steps_fit_by_twice_their_units(self):
        for high, low, many in product(range(8), range(8), range(1, 5)):
            for row, step in (((high, low), (0, 1, many)), ((low, high), (1, 0, many))):
                if high >= low + 2 * many:
                    self.assertEqual(after(row, (step,)), behind(row, (step,)))
                else:
                    self.fails(InvalidOperation, after, row, (step,))

    def test_units(self):
        self.assertEqual((units(()), units(((0, 63, THIRTY),)), units(((3, 0, 2), (0, 3, 5)))), (0, THIRTY, 7))
        for wrong in NO_STEPS:
            self.fails(InvalidOperation, units, (wrong,))
            self.fails(InvalidOperation, units, ((0, 1, 1), wrong))
        for wrong in NO_TUPLES + [[(0, 1, 1)]]:
            self.fails(InvalidOperation, units, wrong)

    def test_roads_of_small_rows(self):
        for every in SMALL:
            for row in every:
                reached = unit_roads(row)
                for lower in every:
                    if arranged_alike(row, lower):
                        self.assertIs(lower in reached, under(lower, row))
                    if arranged_alike(row, lower) and under(lower, row):
                        self.check_road(row, lower)
                        self.assertEqual(units(road(row, lower)), reached[lower])
                    else:
                        self.fails(InvalidOperation, road, row, lower)

    def check_road(self, row, lower):
        found = road(row, lower)
        self.assertEqual(behind(row, found), lower)
        self.assertLessEqual(len(found), len(row) - 1)
        self.assertEqual(2 * sum(step[2] for step in found), sum(abs(a - b) for a, b in zip(row, lower)))
        self.assertIs(is_road(row, lower, found), True)
        self.assertEqual(after(row, found), lower)

    def test_great_roads(self):
        for length in (1, 2, 3, 17, 64):
            row, lower = great_pair(length)
            self.check_road(row, lower)
            self.check_road(row[::-1], lower[::-1])
            self.check_road(row, row)
            middle = [(3 * k) % length if length % 3 else k for k in range(length)]
            self.check_road(tuple(row[k] for k in middle), tuple(lower[k] for k in middle))
        self.check_road((64,) + (0,) * 63, (1,) * 64)
        self.check_road((2,) * 32 + (0,) * 32, (1,) * 64)

    def test_roads_of_longer_rows(self):
        random = Random(11)
        for _ in range(400):
            row = tuple(random.randint(0, random.choice((5, 60, THIRTY))) for _ in range(random.randint(1, 12)))
            lower = list(row)
            for _ in range(8):
                i, j = random.randrange(len(row)), random.randrange(len(row))
                if lower[i] >= lower[j] + 2:
                    many = random.randint(1, (lower[i] - lower[j]) // 2)
                    lower[i], lower[j] = lower[i] - many, lower[j] + many
            self.check_road(row, arranged(tuple(lower), row))

    def test_no_road(self):
        self.fails(InvalidOperation, road, (2, 0), (0, 2))
        self.fails(InvalidOperation, road, (2, 1, 0), (1, 2, 0))
        self.fails(InvalidOperation, road, (2, 0), (2, 1))
        self.fails(InvalidOperation, road, (2, 0), (2, 0, 0))
        self.fails(InvalidOperation, road, (3, 3, 0), (4, 1, 1))
        self.assertEqual(road((3, 3), (3, 3)), ())

    def test_is_road(self):
        self.assertIs(is_road((4, 0, 0), (2, 1, 1), ((0, 1, 1), (0, 2, 1))), True)
        self.assertIs(is_road((4, 0, 0), (2, 1, 1), ((0, 2, 1), (0, 1, 1))), True)
        self.assertIs(is_road((4, 0, 0), (2, 1, 1), ((0, 1, 2), (1, 2, 1))), True)
        self.assertIs(is_road((4, 0, 0), (2, 1, 1), ((0, 1, 1), (0, 1, 1), (1, 2, 1))), True)
        self.assertIs(is_road((4, 0, 0), (2, 1, 1), ((0, 1, 1),)), False)
        self.assertIs(is_road((4, 0, 0), (1, 2, 1), ((0, 1, 1), (0, 2, 1))), False)
        self.assertIs(is_road((4, 0, 0), (1, 2, 1), ((0, 2, 1), (0, 1, 2))), False)
        self.assertIs(is_road((4, 0), (4, 0), ()), True)
        self.assertIs(is_road((4, 0), (0, 4), ()), False)
        self.assertIs(is_road((4, 0), (4, 0, 0), ()), False)
        self.assertIs(is_road((4, 0), (2, 2), ((0, 1, 2),)), True)
        self.assertIs(is_road((4, 0), (1, 3), ((0, 1, 3),)), False)
        self.assertIs(is_road((4, 1, 4), (3, 3, 3), ((2, 1, 1), (0, 1, 1))), True)

    def test_is_road_by_all_short_values(self):
        steps = [(i, j, many) for i, j in product(range(3), repeat=2) for many in range(4)]
        for row in ((4, 1, 0), (0, 2, 4), (2, 2, 1)):
            for value in [()] + [(one,) for one in steps] + list(product(steps, repeat=2)):
                try:
                    reached = behind(row, value)
                except AssertionError:
                    reached = None
                for lower in ((3, 1, 1), (2, 2, 1), (1, 2, 3), (2, 2, 2), row):
                    self.assertIs(is_road(row, lower, value), reached == lower)

    def test_is_road_refuses_all_else(self):
        for wrong in NO_STEPS:
            self.assertIs(is_road((9, 1, 0), (8, 2, 0), (wrong,)), False)
            self.assertIs(is_road((9, 1, 0), (8, 2, 0), ((0, 1, 1), wrong)), False)
        for wrong in NO_TUPLES + [[(0, 1, 1)]]:
            self.assertIs(is_road((9, 1, 0), (8, 2, 0), wrong), False)
        self.judges_every_kind(is_road, (9, 1, 0), (8, 2, 0))
        for wrong in NO_ROWS:
            for value in ((), None):
                self.fails(InvalidSums, is_road, wrong, (1,), value)
                self.fails(InvalidSums, is_road, (1,), wrong, value)

    def test_fewest_units(self):
        for every in SMALL:
            for row in every:
                reached = unit_roads(row)
                for lower in every:
                    if under(lower, row):
                        self.assertEqual(fewest_units(row, lower),
                                         min(many for one, many in reached.items() if alike(one, lower)))
                    else:
                        self.fails(InvalidOperation, fewest_units, row, lower)
        self.fails(InvalidOperation, fewest_units, (2, 0), (2,))
        row, lower = great_pair(64)
        self.assertEqual(fewest_units(row[::-1], lower), sum(abs(a - b) for a, b in zip(row, lower)) // 2)

    def test_every_kind_of_wrong_amount(self):
        for wrong in NO_INTEGERS + [0, -1, FORTY]:
            self.fails(InvalidOperation, units, ((0, 1, wrong),))
            self.fails(InvalidOperation, after, (9, 0), ((0, 1, wrong),))
        for value in EVERY:
            self.fails(InvalidOperation, units, (value, (0, 0, 0)))
