"""Promise 6: best."""

import unittest

from lines import begin, begun, best, bring, counted_best, faces, heaps, naive_best, straw, straws, take, told


def best_of(heap, laid):
    return told(*begun(heap, laid), best())[-1]


class Best(unittest.TestCase):
    def test_an_empty_heap_has_one_order(self):
        for columns in range(1, 6):
            for laid in straws(columns):
                self.assertEqual(best_of([0] * columns, laid), [0, 1])

    def test_one_column_has_one_order(self):
        for height, water in ((1, 0), (2, 4), (3, 11)):
            self.assertEqual(best_of([height], [0]), [water, 1])

    def test_worked_by_hand(self):
        self.assertEqual(best_of([1, 1], [0, 0]), [4, 2])
        self.assertEqual(best_of([1, 0, 1], [0, 0, 0]), [4, 2])
        self.assertEqual(best_of([2, 1], [0, 0]), [10, 2])
        self.assertEqual(best_of([1, 1, 1], [0, 0, 0]), [10, 4])

    def test_straw_changes_which_are_best(self):
        self.assertEqual(best_of([1, 1], [1, 0]), [3, 1])
        self.assertEqual(best_of([2, 1], [1, 0]), [8, 1])
        self.assertEqual(best_of([1, 1, 1], [0, 1, 0]), [8, 2])
        self.assertEqual(best_of([1, 0, 1], [0, 1, 0]), [4, 2])

    def test_all_orders_one_by_one(self):
        for columns, most in ((1, 3), (2, 3), (3, 2), (4, 1), (5, 1)):
            for heap in heaps(columns, most):
                for laid in straws(columns):
                    with self.subTest(heap=heap, laid=laid):
                        self.assertEqual(best_of(heap, laid), naive_best(heap, laid))

    def test_large_heaps(self):
        for heap, laid in (((3, 3, 3, 3, 3), (0, 1, 1, 0, 1)), ((3, 0, 3, 0, 3), (0, 1, 0, 1, 1)),
                           ((1, 2, 3, 2, 1), (0, 0, 0, 0, 0)), ((3, 3, 3), (1, 0, 0)),
                           ((0, 3, 1, 3, 2), (0, 0, 1, 0, 1)), ((3, 3, 3, 3), (0, 0, 0, 1))):
            with self.subTest(heap=heap, laid=laid):
                self.assertEqual(best_of(heap, laid), counted_best(heap, laid))

    def test_the_largest_heap(self):
        self.assertEqual(best_of([3] * 5, [0] * 5), [216, 2304])
        self.assertEqual(best_of([3] * 5, [1] * 5), [159, 4096])
        self.assertEqual(best_of([3] * 5, [1, 0, 0, 0, 0]), [202, 144])

    def test_a_whole_line_of_the_largest_heap(self):
        self.assertEqual(told(begin([3] * 5), *[best()] * 59), [[0]] + [[216, 2304]] * 59)

    def test_of_the_heap_as_it_is_then(self):
        self.assertEqual(told(begin([1, 1]), best(), bring(0, 1), best(), straw(0, 1), best(), take(1), best()),
                         [[0], [4, 2], [3], [10, 2], [8], [8, 1], [6], [3, 1]])

    def test_asking_changes_nothing(self):
        self.assertEqual(told(begin([2, 1]), straw(0, 1), best(), faces(), best()), [[0], [8], [8, 1], [8], [8, 1]])


if __name__ == "__main__":
    unittest.main()
