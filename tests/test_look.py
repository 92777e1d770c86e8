"""Promise 12: look."""

import unittest

from lines import begin, best, bring, faces, follow, lay, look, order, stack, straw, take, told, water


class Look(unittest.TestCase):
    def test_a_house_just_begun(self):
        self.assertEqual(told(begin([0]), look()), [[0], [0, 0, 0, 0, 0, 0]])
        self.assertEqual(told(begin([3]), look()), [[0], [0, 3, 0, 0, 3, 0]])
        self.assertEqual(told(begin([3, 0, 2, 1, 3]), look()), [[0], [0, 9, 0, 0, 3, 0, 2, 1, 3, 0, 0, 0, 0, 0]])

    def test_blocks_brought_are_those_of_begin_and_of_every_bring(self):
        self.assertEqual(told(begin([1, 0]), bring(0, 2), bring(1, 1), take(0), bring(0, 1), look())[-1],
                         [1, 5, 1, 9, 3, 1, 0, 0])

    def test_blocks_taken_and_water_are_those_of_take_and_follow(self):
        self.assertEqual(told(begin([2, 2]), take(1), look(), follow(2), look(), take(0), look()),
                         [[0], [9], [1, 4, 1, 9, 2, 1, 0, 0], [3, 19], [3, 4, 3, 19, 0, 1, 0, 0],
                          [-6], [3, 4, 3, 19, 0, 1, 0, 0]])

    def test_straw_of_each_column(self):
        self.assertEqual(told(begin([1, 0, 2]), straw(1, 1), straw(2, 1), look(), straw(1, 0), look())[3::2],
                         [[0, 3, 0, 0, 1, 0, 2, 0, 1, 1], [0, 3, 0, 0, 1, 0, 2, 0, 0, 1]])

    def test_a_day_without_water_counts(self):
        self.assertEqual(told(begin([1]), take(0), look()), [[0], [0], [1, 1, 1, 0, 0, 0]])

    def test_begin_starts_all_anew(self):
        given = told(begin([2, 2]), straw(0, 1), bring(1, 1), take(0), follow(2), begin([1, 0, 1]), look())
        self.assertEqual(given[-1], [0, 2, 0, 0, 1, 0, 1, 0, 0, 0])

    def test_a_refused_begin_leaves_all(self):
        given = told(begin([2, 2]), straw(0, 1), bring(1, 1), take(0), look(), begin([4]), look())
        self.assertEqual(given[4:], [[1, 5, 1, 11, 1, 3, 1, 0], [-1], [1, 5, 1, 11, 1, 3, 1, 0]])

    def test_refusals_change_nothing(self):
        refused = [(begin([]), -1), (begin([1] * 6), -1), (begin([0, 4]), -1), (bring(2, 1), -2), (bring(0, 0), -1),
                   (bring(1, 3), -1), (straw(2, 1), -2), (straw(0, 2), -1), (take(2), -2), (take(0), -6),
                   (water([2]), -2), (water([0]), -6), (lay(6), -1), (stack(7), -6), (follow(0), -1), (follow(2), -1)]
        for call, number in refused:
            with self.subTest(call=call):
                given = told(begin([1, 2]), straw(1, 1), take(0), take(1), look(), call, look(), best())
                self.assertEqual(given[4:], [[2, 3, 2, 9, 0, 1, 0, 1], [number], [2, 3, 2, 9, 0, 1, 0, 1], [0, 1]])

    def test_calls_that_only_tell_change_nothing(self):
        for call in (faces(), best(), order(), water([0, 1]), lay(1), stack(3), look()):
            with self.subTest(call=call):
                given = told(begin([1, 2]), straw(1, 1), take(1), look(), call, look(), follow(2), look())
                self.assertEqual([given[3], given[5]], [[1, 3, 1, 5, 1, 1, 0, 1]] * 2)
                self.assertEqual(given[6:], [[3, 8], [3, 3, 3, 8, 0, 0, 0, 1]])

    def test_without_a_house(self):
        self.assertEqual(told(look(), begin([4]), look()), [[-9], [-1], [-9]])


if __name__ == "__main__":
    unittest.main()
