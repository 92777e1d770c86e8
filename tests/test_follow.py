"""Promise 11: follow."""

import unittest

from lines import begin, begun, best, bring, faces, follow, heaps, look, order, straw, straws, take, told, water


class Follow(unittest.TestCase):
    def test_worked_by_hand(self):
        self.assertEqual(told(begin([2, 1]), follow(1), follow(1), follow(1), look()),
                         [[0], [1, 6], [2, 10], [3, 10], [3, 3, 3, 10, 0, 0, 0, 0]])
        self.assertEqual(told(begin([2, 1]), straw(0, 1), follow(2), look()),
                         [[0], [8], [2, 8], [2, 3, 2, 8, 1, 0, 1, 0]])

    def test_takes_the_first_days_of_the_order(self):
        for heap in heaps(3):
            for laid in straws(3)[::3]:
                for n in range(1, sum(heap) + 1):
                    row = told(*begun(heap, laid), order())[-1][1:n + 1]
                    melted = told(*begun(heap, laid), water(row))[-1][0]
                    left = [height - row.count(column) for column, height in enumerate(heap)]
                    given = told(*begun(heap, laid), follow(n), look())
                    self.assertEqual(given[-2:], [[n, melted], [n, sum(heap), n, melted] + left + list(laid)])

    def test_to_the_end_melts_as_much_as_best(self):
        for heap in heaps(5)[1::41]:
            given = told(begin(heap), best(), follow(sum(heap)), faces(), look())
            self.assertEqual(given[2], [sum(heap), given[1][0]])
            self.assertEqual(given[3:], [[0], [sum(heap)] * 3 + [given[1][0]] + [0] * 10])

    def test_day_and_water_are_those_since_begin(self):
        self.assertEqual(told(begin([2, 2]), take(0), follow(1), bring(1, 1), follow(2), look()),
                         [[0], [9], [2, 15], [3], [4, 25], [4, 5, 4, 25, 0, 1, 0, 0]])

    def test_begin_starts_them_anew(self):
        self.assertEqual(told(begin([3, 3]), follow(4), begin([1, 1]), follow(1)),
                         [[0], [4, 13 + 10 + 9 + 6], [0], [1, 4]])

    def test_none_or_more_than_there_are_blocks(self):
        for heap in ((1,), (2, 1), (0, 0, 3), (3, 3, 3, 3, 3)):
            for n in range(21):
                with self.subTest(heap=heap, n=n):
                    self.assertEqual(told(begin(heap), follow(n))[-1] == [-1], n == 0 or n > sum(heap))

    def test_an_empty_heap(self):
        for n in (0, 1, 15, 20):
            self.assertEqual(told(begin([0, 0]), follow(n), look()), [[0], [-1], [0] * 8])
            self.assertEqual(told(begin([1]), follow(1), follow(n), look()), [[0], [1, 0], [-1], [1, 1, 1, 0, 0, 0]])

    def test_refused_changes_nothing(self):
        given = told(begin([2, 1]), straw(0, 1), take(1), look(), follow(0), follow(3), follow(20), look(), follow(2))
        self.assertEqual(given[3:], [[1, 3, 1, 6, 2, 0, 1, 0], [-1], [-1], [-1], [1, 3, 1, 6, 2, 0, 1, 0], [3, 9]])

    def test_the_straw_stays(self):
        self.assertEqual(told(begin([2, 1]), straw(0, 1), follow(3), look(), bring(0, 1), faces()),
                         [[0], [8], [3, 8], [3, 3, 3, 8, 0, 0, 1, 0], [1], [3]])

    def test_without_a_house(self):
        self.assertEqual(told(follow(0), follow(1), follow(20), begin([1]), follow(1)), [[-9]] * 3 + [[0], [1, 0]])


if __name__ == "__main__":
    unittest.main()
