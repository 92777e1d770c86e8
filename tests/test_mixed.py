"""Calls of all promises mixed in one line, against the document's words worked out one by one."""

import random
import unittest
from functools import lru_cache

from icehouse.melt import answers
from lines import (begin, best, bring, counted_best, faces, follow, joined, lay, look, naive_faces, naive_lay,
                   naive_stack, naive_water, order, stack, straw, straws, take, told, water)

# Lists of calls, and what the document asks for them.
WORKED = (
    ([0, 2, 2, 1, 6, 7, 3, 0, 1, 0, 7, 1, 0, 7, 0, 7, 2, 1, 1, 7, 3, 1, 1, 2, 11],
     [1, 0, 4, 3, 0, 0, 1, 1, 10, 1, 6, 1, 0, 1, -6, 1, -2, 8, 0, 3, 0, 0, 2, 1, 0, 0]),
    ([0, 3, 3, 0, 1, 2, 2, 1, 8, 0, 8, 1, 8, 2, 8, 5, 8, 6, 11],
     [1, 0, 1, 13, 4, 21, 0, 0, 0, 4, 18, 1, 0, 0, 4, 18, 1, 1, 0, 4, 18, 1, 1, 1, 1, -1,
      10, 0, 4, 0, 0, 3, 0, 1, 0, 0, 1]),
    ([0, 3, 1, 2, 0, 2, 0, 1, 9, 0, 9, 4, 9, 9, 9, 10, 11],
     [1, 0, 1, 8, 4, 0, 0, 0, 0, 4, 15, 2, 1, 1, 4, 79, 3, 3, 3, 1, -6, 10, 0, 3, 0, 0, 1, 2, 0, 1, 0, 0]),
    ([0, 3, 2, 2, 2, 6, 10, 0, 10, 2, 11, 6, 3, 0, 10, 4, 10, 3, 11, 6, 10, 1],
     [1, 0, 7, 6, 0, 0, 1, 2, 1, 2, 1, -1, 2, 2, 22, 10, 2, 6, 2, 22, 0, 2, 2, 0, 0, 0, 5, 4, 1, 2, 1, 2,
      1, -6, 2, 6, 41, 1, -1, 10, 6, 6, 6, 41, 0, 0, 0, 0, 0, 0, 1, 0, 1, -1]),
    ([6, 11, 9, 0, 0, 1, 0, 6, 5, 8, 1, 9, 3, 10, 1, 1, 0, 2, 10, 2, 11],
     [1, -9, 1, -9, 1, -9, 1, 0, 1, 0, 2, 0, 1, 2, 0, 1, 2, 11, 3, 1, -1, 1, 2, 2, 2, 4, 6, 2, 2, 2, 4, 0, 0]),
    ([0, 5, 3, 3, 3, 3, 3, 6, 8, 2, 9, 7],
     [1, 0, 16, 15, 0, 0, 0, 1, 2, 3, 4, 1, 1, 2, 2, 3, 4, 3, 4, 6, 189, 1, 1, 0, 0, 0, 6, 54, 3, 2, 2, 0, 0]),
)


@lru_cache(maxsize=None)
def best_of(heap, laid):
    return counted_best(heap, laid)


class WordedHouse:
    """The calls as the document words them, without regard to how long they take."""

    def __init__(self):
        self.heap = None

    def answer(self, call):
        name, given = NAMES[call[0]], call[1:]
        if name in ("begin", "water"):
            given = [given[1:]]
        if name != "begin" and self.heap is None:
            return [-9]
        return getattr(self, name)(*given)

    def begin(self, heap):
        if len(heap) not in (1, 2, 3, 4, 5) or any(height > 3 for height in heap):
            return [-1]
        self.heap = list(heap)
        self.laid = [0 for height in heap]
        self.brought = sum(heap)
        self.waters = []
        return [0]

    def bring(self, column, n):
        if column >= len(self.heap):
            return [-2]
        if n == 0 or self.heap[column] + n > 3:
            return [-1]
        self.heap[column] += n
        self.brought += n
        return [sum(self.heap)]

    def straw(self, column, b):
        if column >= len(self.heap):
            return [-2]
        if b > 1:
            return [-1]
        self.laid[column] = b
        return self.faces()

    def take(self, column):
        if column >= len(self.heap):
            return [-2]
        if self.heap[column] == 0:
            return [-6]
        self.heap[column] -= 1
        self.waters.append(naive_faces(self.heap, self.laid))
        return self.waters[-1:]

    def faces(self):
        return [naive_faces(self.heap, self.laid)]

    def best(self):
        return best_of(tuple(self.heap), tuple(self.laid))

    def order(self):
        laid = tuple(self.laid)
        rest = tuple(self.heap)
        row = []
        while any(rest):
            ways = []
            for column in range(len(rest)):
                if rest[column]:
                    after = rest[:column] + (rest[column] - 1,) + rest[column + 1:]
                    ways.append((naive_faces(after, laid) + best_of(after, laid)[0], column, after))
            spilt, column, rest = min(ways)
            row.append(column)
        return [len(row)] + row

    def water(self, row):
        if any(column >= len(self.heap) for column in row):
            return [-2]
        spilt = naive_water(self.heap, self.laid, row)
        return [-6] if spilt is None else [spilt]

    def lay(self, n):
        return [-1] if n > 5 else naive_lay(tuple(self.heap), n, best_of)

    def stack(self, n):
        return [-6] if n > 3 * len(self.heap) else naive_stack(tuple(self.laid), n, best_of)

    def follow(self, n):
        if n == 0 or n > sum(self.heap):
            return [-1]
        for column in self.order()[1:n + 1]:
            self.take(column)
        return [len(self.waters), sum(self.waters)]

    def look(self):
        days = len(self.waters)
        return [days, self.brought, days, sum(self.waters)] + self.heap + self.laid


NAMES = ("begin", "bring", "straw", "take", "faces", "best", "order", "water", "lay", "stack", "follow", "look")


def random_call(chance, columns):
    """A call that is mostly about right for a house of so many columns."""
    column = chance.choice([chance.randrange(columns)] * 5 + [chance.randrange(10)])
    row = [chance.randrange(columns) for day in range(chance.randrange(6))]
    if chance.randrange(5) == 0:
        row.append(chance.randrange(10))
    calls = [bring(column, chance.choice([1, 1, 2, 3, 0, 9])), straw(column, chance.choice([1, 1, 0, 2])),
             take(column), faces(), best(), order(), water(row), lay(chance.choice([0, 1, 2, 3, 5, 6])),
             stack(chance.choice([0, 1, 2, 3, 4, 6, 9, 10, 20])), follow(chance.choice([1, 1, 2, 3, 0, 20])), look()]
    return chance.choice(calls)


def random_line(chance, columns):
    calls = []
    for at in range(chance.randrange(1, 61)):
        if at == 0 and chance.randrange(6) or chance.randrange(25) == 0:
            heap = [chance.randrange(4) for column in range(columns)]
            calls.append(begin(chance.choice([heap] * 5 + [heap + [4], []])))
        else:
            calls.append(random_call(chance, columns))
    return calls


class Mixed(unittest.TestCase):
    def test_worked_lists(self):
        for calls, expected in WORKED:
            with self.subTest(calls=calls):
                self.assertEqual(answers(calls), expected)

    def test_lines_of_any_calls(self):
        for seed in range(300):
            chance = random.Random(seed)
            calls = random_line(chance, 1 + seed % 3)
            house = WordedHouse()
            expected = [house.answer(call) for call in calls]
            with self.subTest(calls=calls):
                self.assertEqual(told(*calls), expected)

    def test_every_call_in_one_line(self):
        calls = [begin([2, 0, 1]), bring(1, 1), straw(0, 1), look(), lay(1), stack(4), best(), order(), water([1, 2]),
                 take(1), follow(2), look(), bring(2, 3), follow(1), look(), faces()]
        self.assertEqual(told(*calls),
                         [[0], [4], [10], [0, 4, 0, 0, 2, 1, 1, 1, 0, 0], [15, 1, 0, 0], [15, 2, 1, 1], [15, 1],
                          [4, 0, 2, 1, 0], [16], [10], [3, 19], [3, 4, 3, 19, 1, 0, 0, 1, 0, 0], [4], [4, 29],
                          [4, 7, 4, 29, 1, 0, 2, 1, 0, 0], [10]])


class SixtyCalls(unittest.TestCase):
    def test_every_call_with_every_straw_of_the_largest_house(self):
        for laid in straws(5):
            calls = [begin([3] * 5)] + [straw(column, b) for column, b in enumerate(laid)]
            calls += [best(), order(), lay(2), stack(8), look()] * 10 + [follow(15), look(), begin([3]), look()]
            given = told(*calls)
            self.assertEqual(len(given), 60)
            self.assertEqual(given[6:11] * 10, given[6:56])
            self.assertEqual(given[56], [15, given[6][0]])
            self.assertEqual(given[57], [15, 15, 15, given[6][0]] + [0] * 5 + list(laid))
            self.assertEqual(given[59], [0, 3, 0, 0, 3, 0])


if __name__ == "__main__":
    unittest.main()
