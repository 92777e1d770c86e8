"""Promises 2 and 3: bring and straw."""

import unittest

from icehouse.house import House
from lines import begin, bring, faces, straw, take, told


class Bring(unittest.TestCase):
    def test_answers_the_blocks_of_the_whole_heap(self):
        self.assertEqual(told(begin([1, 0, 2]), bring(1, 2), bring(0, 1), bring(2, 1)), [[0], [5], [6], [7]])

    def test_the_blocks_lie_on_that_column(self):
        self.assertEqual(told(begin([0, 0, 0]), bring(1, 2), faces(), take(0), take(2), take(1), take(1)),
                         [[0], [2], [7], [-6], [-6], [4], [0]])

    def test_up_to_three_on_a_column(self):
        for height in range(4):
            for n in range(10):
                with self.subTest(height=height, n=n):
                    allowed = 1 <= n and height + n <= 3
                    self.assertEqual(told(begin([1, height]), bring(1, n))[1], [1 + height + n] if allowed else [-1])

    def test_both_ends_of_the_row(self):
        self.assertEqual(told(begin([0, 0, 0, 0, 0]), bring(0, 3), bring(4, 3), bring(5, 1)), [[0], [3], [6], [-2]])
        self.assertEqual(told(begin([0]), bring(0, 3), bring(1, 1)), [[0], [3], [-2]])

    def test_no_such_column(self):
        for column in range(2, 10):
            with self.subTest(column=column):
                self.assertEqual(told(begin([1, 1]), bring(column, 1)), [[0], [-2]])

    def test_no_such_column_counts_before_a_wrong_number(self):
        for n in (0, 4, 9):
            with self.subTest(n=n):
                self.assertEqual(told(begin([1, 1]), bring(2, n)), [[0], [-2]])

    def test_refused_changes_nothing(self):
        self.assertEqual(told(begin([2, 1]), bring(0, 2), bring(1, 0), bring(2, 1), faces(), bring(1, 1)),
                         [[0], [-1], [-1], [-2], [9], [4]])

    def test_brought_counts_what_was_allowed(self):
        house = House()
        house.begin([2, 1])
        house.bring(1, 2)
        house.bring(1, 1)
        house.bring(0, 0)
        house.bring(2, 1)
        house.take(0)
        self.assertEqual([house.day, house.brought], [1, 5])


class Straw(unittest.TestCase):
    def test_covers_the_top_of_its_column_alone(self):
        self.assertEqual(told(begin([3, 1]), straw(0, 1), straw(1, 1), straw(0, 0), straw(1, 0)),
                         [[0], [11], [10], [11], [12]])

    def test_lies_once_however_often_it_is_laid(self):
        self.assertEqual(told(begin([1]), straw(0, 1), straw(0, 1), straw(0, 0), straw(0, 0)),
                         [[0], [3], [3], [4], [4]])

    def test_on_an_empty_column_covers_nothing_yet(self):
        self.assertEqual(told(begin([0, 1]), straw(0, 1), bring(0, 1), faces()), [[0], [4], [2], [5]])

    def test_stays_when_blocks_come(self):
        self.assertEqual(told(begin([1, 0]), straw(0, 1), bring(0, 2), faces()), [[0], [3], [3], [9]])

    def test_stays_when_blocks_go_till_none_is_left(self):
        self.assertEqual(told(begin([2]), straw(0, 1), take(0), take(0), faces(), bring(0, 2), faces()),
                         [[0], [6], [3], [0], [0], [2], [6]])

    def test_taken_away_from_an_empty_column(self):
        self.assertEqual(told(begin([0]), straw(0, 1), straw(0, 0), bring(0, 1), faces()), [[0], [0], [0], [1], [4]])

    def test_both_ends_of_the_row(self):
        self.assertEqual(told(begin([1, 1, 1, 1, 1]), straw(0, 1), straw(4, 1), straw(5, 1)), [[0], [11], [10], [-2]])

    def test_no_such_column(self):
        for column in range(2, 10):
            for b in range(10):
                with self.subTest(column=column, b=b):
                    self.assertEqual(told(begin([1, 1]), straw(column, b), faces()), [[0], [-2], [6]])

    def test_b_above_1(self):
        for b in range(2, 10):
            with self.subTest(b=b):
                self.assertEqual(told(begin([1, 1]), straw(0, b), faces()), [[0], [-1], [6]])
                self.assertEqual(told(begin([1, 1]), straw(0, 1), straw(0, b), faces()), [[0], [5], [-1], [5]])


if __name__ == "__main__":
    unittest.main()
