"""Promise 9: lay."""

import unittest

from lines import begin, begun, best, bring, faces, heaps, lay, look, naive_lay, straw, straws, take, told


def lay_on(heap, n, laid=()):
    return told(*begun(heap, laid), lay(n))[-1]


def asked_best(heap, laid):
    return told(*begun(heap, laid), best())[-1]


class Lay(unittest.TestCase):
    def test_worked_by_hand(self):
        self.assertEqual(lay_on([2], 0), [4, 0])
        self.assertEqual(lay_on([2], 1), [3, 1])
        self.assertEqual(lay_on([1, 2], 0), [10, 0, 0])
        self.assertEqual(lay_on([1, 2], 1), [8, 1, 0])
        self.assertEqual(lay_on([0, 2], 1), [3, 0, 1])
        self.assertEqual(lay_on([1, 2], 2), [7, 1, 1])

    def test_of_as_good_ways_the_one_with_straw_further_left(self):
        self.assertEqual(lay_on([1, 1], 1), [3, 1, 0])
        self.assertEqual(lay_on([1, 0, 1], 1), [3, 1, 0, 0])
        self.assertEqual(lay_on([2, 0, 2], 1), told(begin([2, 0, 2]), straw(0, 1), best())[-1][:1] + [1, 0, 0])

    def test_straw_on_empty_columns_where_that_is_no_worse(self):
        self.assertEqual(lay_on([0, 0, 2], 1), [3, 0, 0, 1])
        self.assertEqual(lay_on([0, 0, 2], 2), [3, 1, 0, 1])
        self.assertEqual(lay_on([0, 0, 2], 3), [3, 1, 1, 1])
        # The one block that is left melts no more once it is taken: no straw helps.
        self.assertEqual(lay_on([0, 0, 1], 1), [0, 1, 0, 0])

    def test_an_empty_heap(self):
        for columns in range(1, 6):
            for n in range(6):
                few = min(n, columns)
                self.assertEqual(lay_on([0] * columns, n), [0] + [1] * few + [0] * (columns - few))

    def test_more_than_there_are_columns(self):
        for columns in range(1, 6):
            for n in range(columns, 6):
                with self.subTest(columns=columns, n=n):
                    heap = [2] * columns
                    covered = asked_best(heap, [1] * columns)[0]
                    self.assertEqual(lay_on(heap, n), [covered] + [1] * columns)

    def test_all_ways_one_by_one(self):
        for columns, most in ((1, 3), (2, 3), (3, 1), (4, 1)):
            for heap in heaps(columns, most):
                for n in range(6):
                    with self.subTest(heap=heap, n=n):
                        self.assertEqual(lay_on(heap, n), naive_lay(heap, n))

    def test_all_ways_on_large_heaps(self):
        for heap in ((3, 3, 3, 3, 3), (3, 0, 3, 0, 3), (1, 2, 3, 2, 1), (0, 3, 1, 3, 2), (2, 2, 0, 0, 3), (3, 1, 3)):
            bests = {laid: asked_best(heap, laid) for laid in straws(len(heap))}
            for n in range(6):
                with self.subTest(heap=heap, n=n):
                    self.assertEqual(lay_on(heap, n), naive_lay(heap, n, lambda heap, laid: bests[laid]))

    def test_as_if_none_lay_there(self):
        for heap in ((1, 2, 0), (3, 1, 2), (0, 0, 0), (2, 2, 2, 2, 2)):
            for laid in straws(len(heap)):
                for n in range(6):
                    self.assertEqual(lay_on(heap, n, laid), lay_on(heap, n))

    def test_n_above_5(self):
        for n in range(10):
            for columns in (1, 3, 5):
                with self.subTest(columns=columns, n=n):
                    self.assertEqual(lay_on([1] * columns, n) == [-1], n > 5)

    def test_the_straw_stays_as_it_is(self):
        given = told(begin([2, 1]), straw(1, 1), take(0), look(), lay(1), lay(0), lay(2), lay(6), look(), faces())
        self.assertEqual(given[3:], [[1, 3, 1, 5, 1, 1, 0, 1], [3, 1, 0], [4, 0, 0], [3, 1, 1], [-1],
                                     [1, 3, 1, 5, 1, 1, 0, 1], [5]])

    def test_of_the_heap_as_it_is_then(self):
        self.assertEqual(told(begin([0, 1]), lay(1), bring(1, 1), lay(1), begin([2]), lay(1)),
                         [[0], [0, 1, 0], [2], [3, 0, 1], [0], [3, 1]])

    def test_a_whole_line_of_the_largest_heap(self):
        calls = [lay(n) for n in range(6)] * 10
        given = told(begin([3] * 5), *calls[:59])[1:]
        self.assertEqual(given, ([lay_on([3] * 5, n) for n in range(6)] * 10)[:59])
        self.assertEqual([given[0], given[2], given[5]], [[216, 0, 0, 0, 0, 0], [189, 1, 1, 0, 0, 0], [159] + [1] * 5])

    def test_without_a_house(self):
        self.assertEqual(told(lay(0), lay(5), lay(6), lay(9)), [[-9]] * 4)


if __name__ == "__main__":
    unittest.main()
