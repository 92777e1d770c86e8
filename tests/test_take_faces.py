"""Promises 4 and 5: take and faces."""

import unittest

from icehouse.house import House
from lines import begin, begun, best, faces, heaps, naive_faces, straw, straws, take, told


class Take(unittest.TestCase):
    def test_answers_the_faces_that_are_open_after_it(self):
        self.assertEqual(told(begin([1, 2, 1]), take(1), faces(), take(1), take(0), take(2)),
                         [[0], [8], [8], [8], [4], [0]])

    def test_with_straw(self):
        self.assertEqual(told(begin([2, 2]), straw(0, 1), take(1), take(0), take(1), take(0)),
                         [[0], [9], [8], [5], [3], [0]])

    def test_both_ends_of_the_row(self):
        self.assertEqual(told(begin([1, 1, 1, 1, 1]), take(4), take(0), take(5)), [[0], [10], [8], [-2]])

    def test_no_block_there(self):
        self.assertEqual(told(begin([0, 1]), take(0), take(1), take(1)), [[0], [-6], [0], [-6]])

    def test_no_such_column(self):
        for column in range(2, 10):
            with self.subTest(column=column):
                self.assertEqual(told(begin([0, 0]), take(column)), [[0], [-2]])

    def test_refused_changes_nothing(self):
        self.assertEqual(told(begin([0, 2]), take(0), take(2), faces(), best()), [[0], [-6], [-2], [7], [4, 1]])

    def test_a_day_passes_and_its_water_melts(self):
        house = House()
        house.begin([1, 2])
        house.take(1)
        house.take(2)
        house.take(1)
        house.take(1)
        house.faces()
        house.best()
        self.assertEqual([house.day, house.brought, house.melted], [2, 3, 6 + 4])


class Faces(unittest.TestCase):
    def test_worked_by_hand(self):
        for heap, count in (([0], 0), ([1], 4), ([2], 7), ([3], 10), ([1, 0, 1], 8), ([1, 1], 6), ([2, 1], 9),
                            ([3, 1, 2], 17), ([0, 0, 0, 0, 0], 0), ([3, 3, 3, 3, 3], 26), ([3, 0, 3, 0, 3], 30)):
            with self.subTest(heap=heap):
                self.assertEqual(told(begin(heap), faces()), [[0], [count]])

    def test_every_heap_with_every_straw(self):
        for columns in range(1, 6):
            for heap in heaps(columns):
                for laid in straws(columns):
                    count = told(*begun(heap, laid), faces())[-1]
                    if count != [naive_faces(heap, laid)]:
                        self.fail(f"{heap} with straw {laid} answers {count}")

    def test_asking_changes_nothing(self):
        self.assertEqual(told(begin([2, 1]), faces(), faces(), take(0)), [[0], [9], [9], [6]])


if __name__ == "__main__":
    unittest.main()
