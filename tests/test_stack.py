"""Promise 10: stack."""

import unittest

from lines import begin, begun, best, bring, faces, heaps, look, naive_stack, order, stack, straw, straws, take, told


def stack_in(laid, n, heap=None):
    return told(*begun(heap or [0] * len(laid), laid), stack(n))[-1]


def asked_best(heap, laid):
    return told(*begun(heap, laid), best())[-1]


class Stack(unittest.TestCase):
    def test_worked_by_hand(self):
        self.assertEqual(stack_in([0], 2), [4, 2])
        self.assertEqual(stack_in([0, 0], 1), [0, 1, 0])
        # One on another the lower block has four faces; side by side the other one has as many.
        self.assertEqual(stack_in([0, 0], 2), [4, 2, 0])
        self.assertEqual(stack_in([0, 1], 2), [3, 1, 1])

    def test_of_as_good_heaps_the_one_higher_further_left(self):
        self.assertEqual(stack_in([0, 0, 0], 1), [0, 1, 0, 0])
        self.assertEqual(stack_in([0, 0, 0], 2), [4, 2, 0, 0])
        self.assertEqual(stack_in([1, 1, 1], 2), [3, 2, 0, 0])

    def test_no_blocks(self):
        for columns in range(1, 6):
            for laid in straws(columns):
                self.assertEqual(stack_in(laid, 0, [1] * columns), [0] + [0] * columns)

    def test_full_columns(self):
        for columns in range(1, 6):
            for laid in ([0] * columns, [1] * columns):
                full = [3] * columns
                self.assertEqual(stack_in(laid, 3 * columns), asked_best(full, laid)[:1] + full)

    def test_no_room(self):
        for columns in range(1, 6):
            for n in range(21):
                with self.subTest(columns=columns, n=n):
                    self.assertEqual(stack_in([0] * columns, n) == [-6], n > 3 * columns)

    def test_all_heaps_one_by_one(self):
        for columns, most in ((1, 3), (2, 6), (3, 4)):
            for laid in straws(columns):
                for n in range(most + 1):
                    with self.subTest(laid=laid, n=n):
                        self.assertEqual(stack_in(laid, n), naive_stack(laid, n))

    def test_all_heaps_of_five_columns(self):
        for laid in ((0, 0, 0, 0, 0), (0, 1, 0, 0, 1), (0, 0, 1, 0, 0), (1, 1, 1, 1, 1)):
            bests = {heap: asked_best(heap, laid) for heap in heaps(5) if sum(heap) in (1, 4, 7, 10, 14)}
            for n in (1, 4, 7, 10, 14):
                with self.subTest(laid=laid, n=n):
                    self.assertEqual(stack_in(laid, n), naive_stack(laid, n, lambda heap, laid: bests[heap]))

    def test_instead_of_the_heap(self):
        for heap in ((0, 0, 0), (3, 3, 3), (0, 2, 1)):
            for laid in straws(3):
                for n in range(11):
                    self.assertEqual(stack_in(laid, n, heap), stack_in(laid, n))

    def test_the_heap_stays_as_it_is(self):
        given = told(begin([2, 1]), straw(1, 1), take(0), look(), stack(2), stack(0), stack(6), stack(7), look(),
                     faces(), order())
        full = asked_best([3, 3], [0, 1])[:1] + [3, 3]
        self.assertEqual(given[3:], [[1, 3, 1, 5, 1, 1, 0, 1], [3, 1, 1], [0, 0, 0], full, [-6],
                                     [1, 3, 1, 5, 1, 1, 0, 1], [5], [2, 0, 1]])

    def test_with_the_straw_as_it_lies_then(self):
        given = told(begin([3, 0]), stack(2), straw(1, 1), stack(2), straw(0, 1), stack(2), bring(1, 1), stack(2))
        self.assertEqual(given, [[0], [4, 2, 0], [10], [3, 1, 1], [9], [3, 2, 0], [4], [3, 2, 0]])

    def test_a_whole_line_of_the_largest_house(self):
        counts = [n % 16 for n in range(58)]
        given = told(begin([3] * 5), straw(2, 1), *[stack(n) for n in counts])[2:]
        self.assertEqual(given, [stack_in((0, 0, 1, 0, 0), n) for n in counts])

    def test_without_a_house(self):
        self.assertEqual(told(stack(0), stack(3), stack(16), stack(20)), [[-9]] * 4)


if __name__ == "__main__":
    unittest.main()
