"""Promise 8: water."""

import unittest

from lines import (begin, begun, best, bring, faces, heaps, look, naive_orders, naive_water, straw, straws, take, told,
                   water)


def water_of(heap, laid, row):
    return told(*begun(heap, laid), water(row))[-1]


class Water(unittest.TestCase):
    def test_of_no_days(self):
        for columns in range(1, 6):
            for height in (0, 1, 3):
                self.assertEqual(water_of([height] * columns, [1] * columns, []), [0])

    def test_worked_by_hand(self):
        self.assertEqual(water_of([2, 1], [0, 0], [0, 0, 1]), [10])
        self.assertEqual(water_of([2, 1], [0, 0], [1, 0, 0]), [11])
        self.assertEqual(water_of([2, 1], [1, 0], [1, 0, 0]), [9])
        self.assertEqual(water_of([1, 0, 1], [0, 0, 0], [2, 0]), [4])

    def test_blocks_may_be_left(self):
        self.assertEqual(water_of([2, 1], [0, 0], [0]), [6])
        self.assertEqual(water_of([2, 1], [0, 0], [1]), [7])
        self.assertEqual(water_of([2, 1], [0, 0], [0, 0]), [10])
        self.assertEqual(water_of([3, 3, 3, 3, 3], [0, 0, 0, 0, 0], [4]), [25])

    def test_every_order_of_small_heaps(self):
        for columns, most in ((1, 3), (2, 2), (3, 1), (5, 1)):
            for heap in heaps(columns, most):
                for laid in straws(columns)[::3]:
                    for spilt, row in naive_orders(heap, laid)[:20]:
                        self.assertEqual(water_of(heap, laid, row), [spilt])

    def test_every_row_of_three_columns(self):
        for row in heaps(3):
            expected = naive_water((1, 2, 0, 1), (0, 1, 0, 0), row)
            given = water_of((1, 2, 0, 1), (0, 1, 0, 0), row)
            self.assertEqual(given, [-6] if expected is None else [expected])

    def test_a_whole_large_heap(self):
        self.assertEqual(water_of([3] * 5, [0] * 5, [column for column in range(5) for day in range(3)]),
                         [naive_water([3] * 5, [0] * 5, [0, 0, 0, 1, 1, 1, 2, 2, 2, 3, 3, 3, 4, 4, 4])])

    def test_no_block_some_day(self):
        for row in ([1], [0, 0], [0, 1], [2, 2, 2], [2, 0, 2, 0], [2, 0, 2, 2]):
            with self.subTest(row=row):
                self.assertEqual(water_of([1, 0, 2], [0, 0, 0], row), [-6])

    def test_longer_than_any_heap(self):
        self.assertEqual(water_of([3] * 5, [0] * 5, [0, 1, 2, 3, 4] * 3 + [0]), [-6])
        self.assertEqual(water_of([3] * 5, [0] * 5, [0] * 24), [-6])
        self.assertEqual(water_of([0], [0], [0] * 24), [-6])

    def test_no_such_column(self):
        for columns in range(1, 6):
            for column in range(columns, 10):
                self.assertEqual(water_of([1] * columns, [0] * columns, [column]), [-2])
                self.assertEqual(water_of([1] * columns, [0] * columns, [0, column]), [-2])

    def test_no_such_column_counts_before_no_block(self):
        for row in ([1, 2], [0, 0, 2], [0, 0, 0, 9], [2, 1], [1] * 23 + [2]):
            with self.subTest(row=row):
                self.assertEqual(water_of([1, 0], [0, 0], row), [-2])

    def test_takes_nothing_and_no_day_passes(self):
        given = told(begin([2, 1]), straw(0, 1), take(0), look(), water([0, 1]), water([1, 0]), water([0, 0]),
                     water([5]), look(), best())
        self.assertEqual(given[3:], [[1, 3, 1, 5, 1, 1, 1, 0], [4], [3], [-6], [-2], [1, 3, 1, 5, 1, 1, 1, 0], [3, 1]])

    def test_of_the_heap_as_it_is_then(self):
        self.assertEqual(told(begin([1, 1]), water([0, 0]), bring(0, 1), water([0, 0]), take(0), water([0, 0])),
                         [[0], [-6], [3], [10], [6], [-6]])

    def test_a_row_is_read_to_its_end_right_or_not(self):
        for row in ([], [4], [9] * 24, [0, 7, 3, 4, 5, 6]):
            with self.subTest(row=row):
                self.assertEqual(told(begin([1]), water(row), faces())[2], [4])

    def test_without_a_house(self):
        self.assertEqual(told(water([]), water([0]), water([9] * 24), begin([1]), water([0])),
                         [[-9], [-9], [-9], [0], [0]])


if __name__ == "__main__":
    unittest.main()
