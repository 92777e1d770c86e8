"""Promise 7: order."""

import unittest

from lines import (begin, begun, best, bring, counted_best, heaps, look, naive_faces, naive_order, order, straw,
                   straws, take, told, water)


def order_of(heap, laid):
    return told(*begun(heap, laid), order())[-1]


class Order(unittest.TestCase):
    def test_an_empty_heap_has_an_order_of_no_days(self):
        for columns in range(1, 6):
            for laid in straws(columns):
                self.assertEqual(order_of([0] * columns, laid), [0])

    def test_one_column(self):
        for height in range(1, 4):
            for laid in straws(1):
                self.assertEqual(order_of([height], laid), [height] + [0] * height)

    def test_worked_by_hand(self):
        self.assertEqual(order_of([2, 1], [0, 0]), [3, 0, 0, 1])
        self.assertEqual(order_of([2, 1], [1, 0]), [3, 0, 1, 0])
        self.assertEqual(order_of([1, 1], [1, 0]), [2, 1, 0])
        self.assertEqual(order_of([0, 0, 2, 0, 1], [0, 0, 0, 0, 0]), [3, 4, 2, 2])

    def test_of_several_best_orders_the_first(self):
        self.assertEqual(order_of([1, 1], [0, 0]), [2, 0, 1])
        self.assertEqual(order_of([1, 1], [1, 1]), [2, 0, 1])
        self.assertEqual(order_of([1, 1, 1], [0, 0, 0]), [3, 0, 1, 2])
        self.assertEqual(order_of([1, 0, 1, 0, 1], [0, 0, 0, 0, 0]), [3, 0, 2, 4])

    def test_all_orders_one_by_one(self):
        for columns, most in ((1, 3), (2, 3), (3, 2), (4, 1), (5, 1)):
            for heap in heaps(columns, most):
                for laid in straws(columns):
                    with self.subTest(heap=heap, laid=laid):
                        self.assertEqual(order_of(heap, laid), naive_order(heap, laid))

    def test_large_heaps_day_by_day(self):
        for heap, laid in (((3, 3, 3, 3, 3), (0, 0, 0, 0, 0)), ((3, 3, 3, 3, 3), (0, 1, 1, 0, 1)),
                           ((3, 0, 3, 0, 3), (0, 1, 0, 1, 1)), ((0, 3, 1, 3, 2), (0, 0, 1, 0, 1)),
                           ((3, 3, 3), (1, 0, 0))):
            with self.subTest(heap=heap, laid=laid):
                row = order_of(heap, laid)
                self.assertEqual(row[0], sum(heap))
                self.check_first(heap, laid, row[1:])

    def check_first(self, heap, laid, row):
        """No column further left begins a best order of what is left, on any day."""
        for chosen in row:
            least = counted_best(heap, laid)[0]
            for column in range(chosen + 1):
                if heap[column]:
                    rest = heap[:column] + (heap[column] - 1,) + heap[column + 1:]
                    found = naive_faces(rest, laid) + counted_best(rest, laid)[0]
                    self.assertEqual(found == least, column == chosen)
            heap = rest
        self.assertEqual(sum(heap), 0)

    def test_its_water_is_that_of_best(self):
        for heap in heaps(5)[::37]:
            for laid in straws(5)[::5]:
                row = order_of(heap, laid)[1:]
                given = told(*begun(heap, laid), best(), water(row))
                self.assertEqual(given[-2][:1], given[-1])

    def test_of_the_heap_as_it_is_then(self):
        self.assertEqual(told(begin([1, 1]), order(), straw(0, 1), order(), bring(0, 1), order(), take(1), order()),
                         [[0], [2, 0, 1], [5], [2, 1, 0], [3], [3, 0, 1, 0], [6], [2, 0, 0]])

    def test_asking_changes_nothing(self):
        given = told(begin([2, 1]), straw(0, 1), take(1), look(), order(), best(), look(), order())
        self.assertEqual(given[3:], [[1, 3, 1, 6, 2, 0, 1, 0], [2, 0, 0], [3, 1], [1, 3, 1, 6, 2, 0, 1, 0], [2, 0, 0]])

    def test_without_a_house(self):
        self.assertEqual(told(order(), begin([]), order()), [[-9], [-1], [-9]])


if __name__ == "__main__":
    unittest.main()
