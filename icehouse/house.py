"""The house that calls are made on. What a call answers is a list: a refusal is its number alone."""

from icehouse.heaps import MOST_BLOCKS, is_heap, open_faces
from icehouse.orders import best_orders

NOT_ALLOWED = -1
NO_COLUMN = -2
NO_BLOCK = -6


class House:
    """One house: there is none till it is begun, and all but begin are asked only once there is."""

    def __init__(self):
        self.heap = None
        self.straw = None
        self.day = 0
        self.brought = 0
        self.melted = 0

    def stands(self):
        return self.heap is not None

    def begin(self, heap):
        if not is_heap(heap):
            return [NOT_ALLOWED]
        self.heap = list(heap)
        self.straw = [0] * len(heap)
        self.day = 0
        self.brought = sum(heap)
        self.melted = 0
        return [0]

    def has_column(self, column):
        return column < len(self.heap)

    def bring(self, column, n):
        if not self.has_column(column):
            return [NO_COLUMN]
        if n == 0 or self.heap[column] + n > MOST_BLOCKS:
            return [NOT_ALLOWED]
        self.heap[column] += n
        self.brought += n
        return [sum(self.heap)]

    def set_straw(self, column, b):
        if not self.has_column(column):
            return [NO_COLUMN]
        if b > 1:
            return [NOT_ALLOWED]
        self.straw[column] = b
        return self.faces()

    def take(self, column):
        if not self.has_column(column):
            return [NO_COLUMN]
        if self.heap[column] == 0:
            return [NO_BLOCK]
        self.heap[column] -= 1
        water = open_faces(self.heap, self.straw)
        self.day += 1
        self.melted += water
        return [water]

    def faces(self):
        return [open_faces(self.heap, self.straw)]

    def best(self):
        return list(best_orders(self.heap, self.straw))
