"""Promise 1: begin."""

import unittest

from icehouse.house import House
from lines import begin, best, bring, faces, straw, take, told


class Begin(unittest.TestCase):
    def test_a_heap_is_taken_column_by_column(self):
        self.assertEqual(told(begin([2, 1]), take(1), take(1), take(0), take(0), take(0)),
                         [[0], [7], [-6], [4], [0], [-6]])

    def test_every_number_of_columns_that_a_heap_may_have(self):
        for columns in range(1, 6):
            for height in range(4):
                with self.subTest(columns=columns, height=height):
                    heap = [height] * columns
                    self.assertEqual(told(begin(heap), straw(columns - 1, 0))[0], [0])
                    self.assertEqual(told(begin(heap), straw(columns, 0))[1], [-2])

    def test_no_columns_or_more_than_five(self):
        for heap in ([], [0] * 6, [1] * 6, [3] * 7, [1] * 8):
            with self.subTest(heap=heap):
                self.assertEqual(told(begin(heap)), [[-1]])

    def test_a_column_of_more_than_three(self):
        for heap in ([4], [9], [4, 0, 0, 0, 0], [0, 0, 0, 0, 4], [3, 3, 9, 3, 3], [9] * 8):
            with self.subTest(heap=heap):
                self.assertEqual(told(begin(heap)), [[-1]])

    def test_a_house_without_straw(self):
        self.assertEqual(told(begin([1, 1]), faces()), [[0], [6]])

    def test_instead_of_the_house_that_stands(self):
        self.assertEqual(told(begin([3, 2, 1]), straw(0, 1), begin([1, 1]), faces(), best(), bring(2, 1), bring(0, 1)),
                         [[0], [14], [0], [6], [4, 2], [-2], [3]])

    def test_a_longer_house_instead_of_a_short_one(self):
        self.assertEqual(told(begin([1]), straw(0, 1), begin([1, 0, 0, 0, 1]), faces(), take(4)),
                         [[0], [3], [0], [8], [4]])

    def test_refused_leaves_the_house_that_stands(self):
        for heap in ([], [4], [1] * 6, [0, 9]):
            with self.subTest(heap=heap):
                self.assertEqual(told(begin([1, 1]), straw(0, 1), begin(heap), faces(), best(), take(0)),
                                 [[0], [5], [-1], [5], [3, 1], [4]])

    def test_refused_makes_no_house(self):
        self.assertEqual(told(begin([4]), faces(), begin([1]), faces()), [[-1], [-9], [0], [4]])

    def test_on_day_0_with_that_heap_brought(self):
        house = House()
        house.begin([3, 1])
        house.bring(1, 1)
        house.take(0)
        house.begin([2, 1])
        self.assertEqual([house.day, house.brought, house.melted], [0, 3, 0])

    def test_refused_leaves_the_day_and_what_melted(self):
        house = House()
        house.begin([3, 1])
        house.take(1)
        house.begin([4])
        self.assertEqual([house.day, house.brought, house.melted], [1, 4, 10])


if __name__ == "__main__":
    unittest.main()
