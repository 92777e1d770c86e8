"""A line of calls: how it is written, what stands before a house does, what is kept and what is not."""

import unittest

from icehouse.melt import answers
from lines import begin, best, bring, faces, follow, joined, lay, look, order, stack, straw, take, told, water


def refuse_change(*given, **named):
    raise AssertionError("what is handed in was changed")


class Handed(list):
    """A list that fails when it is changed, even for a while."""

    append = extend = insert = pop = remove = clear = sort = reverse = refuse_change
    __setitem__ = __delitem__ = __iadd__ = __imul__ = refuse_change


class Written(unittest.TestCase):
    def test_numbers_one_behind_another(self):
        line = [0, 3, 1, 0, 2, 1, 1, 2, 2, 0, 1, 3, 2, 4, 5]
        self.assertEqual(answers(line), [1, 0, 1, 5, 1, 11, 1, 10, 1, 10, 2, 15, 1])

    def test_a_call_alone(self):
        self.assertEqual(answers([0, 1, 3]), [1, 0])
        self.assertEqual(answers([0, 0]), [1, -1])
        self.assertEqual(answers([4]), [1, -9])

    def test_a_row_is_read_to_its_end_right_or_not(self):
        for heap in ([], [4, 5], [1, 2, 3, 4, 5, 0], [9] * 8):
            with self.subTest(heap=heap):
                self.assertEqual(told(begin(heap), begin([2]), faces()), [[-1], [0], [7]])

    def test_whole_numbers_in_a_list(self):
        given = answers(joined([begin([2, 1]), straw(0, 1), bring(1, 1), take(0), faces(), best(), take(9)]))
        self.assertIs(list, given.__class__)
        self.assertEqual({int}, {number.__class__ for number in given})

    def test_sixty_calls(self):
        line = joined([begin([3] * 5)] + [straw(2, 1), faces(), take(2), bring(2, 1)] * 14 + [take(0), best(), take(7)])
        told_numbers = answers(line)
        self.assertEqual(told_numbers[:10], [1, 0, 1, 25, 1, 25, 1, 26, 1, 15])
        self.assertEqual(told_numbers[-2:], [1, -2])


class NoHouse(unittest.TestCase):
    def test_all_but_begin_are_refused(self):
        self.assertEqual(told(bring(0, 1), straw(0, 1), take(0), faces(), best()), [[-9]] * 5)
        self.assertEqual(told(order(), water([0]), lay(1), stack(1), follow(1), look()), [[-9]] * 6)

    def test_counts_before_all_other_refusals(self):
        self.assertEqual(told(bring(9, 1), bring(0, 0), bring(9, 9), straw(9, 0), straw(0, 9), straw(9, 9), take(9)),
                         [[-9]] * 7)
        self.assertEqual(told(water([9]), lay(6), stack(20), follow(0)), [[-9]] * 4)

    def test_a_wrong_begin_is_refused_as_ever(self):
        self.assertEqual(told(begin([]), begin([4]), take(0)), [[-1], [-1], [-9]])

    def test_what_was_refused_is_not_done_later(self):
        self.assertEqual(told(bring(0, 1), straw(0, 1), begin([1]), faces()), [[-9], [-9], [0], [4]])
        self.assertEqual(told(follow(1), lay(1), begin([1]), look()), [[-9], [-9], [0], [0, 1, 0, 0, 1, 0]])


class Kept(unittest.TestCase):
    def test_the_list_handed_in_is_unchanged(self):
        calls = [begin([2, 1]), bring(1, 1), straw(0, 1), take(0), faces(), best(), begin([4]), take(0), best(),
                 order(), water([0, 1]), lay(1), stack(3), follow(1), water([9]), look()]
        line = Handed(joined(calls))
        answers(line)
        self.assertEqual(line, joined(calls))

    def test_two_lists_do_not_touch_each_other(self):
        first = joined([begin([2, 1]), straw(0, 1), take(1), best()])
        second = joined([faces(), begin([2, 1]), faces(), best()])
        once = answers(first)
        self.assertEqual(answers(second), [1, -9, 1, 0, 1, 9, 2, 10, 2])
        self.assertEqual(answers(first), once)
        self.assertEqual(once, [1, 0, 1, 8, 1, 6, 2, 3, 1])

    def test_days_straw_and_water_are_not_kept(self):
        first = joined([begin([2, 1]), straw(0, 1), follow(2), bring(1, 1), look()])
        second = joined([look(), begin([2, 1]), lay(1), order(), stack(2), look()])
        once = answers(first)
        self.assertEqual(told(look(), begin([2, 1]), lay(1), order(), stack(2), look()),
                         [[-9], [0], [8, 1, 0], [3, 0, 0, 1], [4, 2, 0], [0, 3, 0, 0, 2, 1, 0, 0]])
        self.assertEqual(answers(second), answers(second))
        self.assertEqual(answers(first), once)

    def test_what_is_given_back_can_be_changed(self):
        line = joined([begin([2, 1]), best(), order(), look()])
        given = answers(line)
        given.clear()
        self.assertEqual(answers(line), [1, 0, 2, 10, 2, 4, 3, 0, 0, 1, 8, 0, 3, 0, 0, 2, 1, 0, 0])


if __name__ == "__main__":
    unittest.main()
