"""The house that calls are made on. What a call answers is a list: a refusal is its number alone."""

from icehouse.heaps import MOST_BLOCKS, MOST_COLUMNS, is_heap, open_faces, rows_of
from icehouse.orders import BestOrders

NOT_ALLOWED = -1
NO_COLUMN = -2
NO_BLOCK = -6
NO_ROOM = -6


class House:
    """One house: there is none till it is begun, and all but begin are asked only once there is."""

    def __init__(self):
        self.heap = None
        self.straw = None
        self.day = 0
        self.brought = 0
        self.melted = 0
        # For each straw that was asked about (a tuple) what was found with it: that holds whatever heap stands.
        self.orders_by_straw = {}

    def stands(self):
        return self.heap is not None

    def begin(self, heap):
        if not is_heap(heap):
            return [NOT_ALLOWED]
        self.heap = list(heap)
        self.straw = [0] * len(heap)
        self.day = 0
        self.brought = sum(heap)
        self.melted = 0
        return [0]

    def has_column(self, column):
        return column < len(self.heap)

    def bring(self, column, n):
        if not self.has_column(column):
            return [NO_COLUMN]
        if n == 0 or self.heap[column] + n > MOST_BLOCKS:
            return [NOT_ALLOWED]
        self.heap[column] += n
        self.brought += n
        return [sum(self.heap)]

    def set_straw(self, column, b):
        if not self.has_column(column):
            return [NO_COLUMN]
        if b > 1:
            return [NOT_ALLOWED]
        self.straw[column] = b
        return self.faces()

    def take(self, column):
        if not self.has_column(column):
            return [NO_COLUMN]
        if self.heap[column] == 0:
            return [NO_BLOCK]
        self.heap[column] -= 1
        water = open_faces(self.heap, self.straw)
        self.day += 1
        self.melted += water
        return [water]

    def faces(self):
        return [open_faces(self.heap, self.straw)]

    def orders_with(self, straw):
        """The best orders with that straw (a tuple)."""
        if straw not in self.orders_by_straw:
            self.orders_by_straw[straw] = BestOrders(straw)
        return self.orders_by_straw[straw]

    def orders(self):
        """The best orders with the straw that lies."""
        return self.orders_with(tuple(self.straw))

    def best(self):
        return list(self.orders().best(tuple(self.heap)))

    def first_order(self):
        return self.orders().first(tuple(self.heap))

    def order(self):
        order = self.first_order()
        return [len(order)] + order

    def water(self, order):
        for column in order:
            if not self.has_column(column):
                return [NO_COLUMN]
        rest = list(self.heap)
        water = 0
        for column in order:
            if rest[column] == 0:
                return [NO_BLOCK]
            rest[column] -= 1
            water += open_faces(rest, self.straw)
        return [water]

    def lay(self, n):
        if n > MOST_COLUMNS:
            return [NOT_ALLOWED]
        columns = len(self.heap)
        heap = tuple(self.heap)
        # One straw more never lets more melt and counts as the better way, so no fewer are ever told.
        ways = rows_of(columns, 1, min(n, columns))
        return first_of_least(ways, [self.orders_with(way).best(heap)[0] for way in ways])

    def stack(self, n):
        columns = len(self.heap)
        if n > columns * MOST_BLOCKS:
            return [NO_ROOM]
        orders = self.orders()
        heaps = rows_of(columns, MOST_BLOCKS, n)
        return first_of_least(heaps, [orders.best(heap)[0] for heap in heaps])

    def follow(self, n):
        if n == 0 or n > sum(self.heap):
            return [NOT_ALLOWED]
        for column in self.first_order()[:n]:
            self.take(column)
        return [self.day, self.melted]

    def look(self):
        # A day passes only by a block taken, and none is taken but so.
        taken = self.day
        return [self.day, self.brought, taken, self.melted] + self.heap + self.straw


def first_of_least(rows, waters):
    """The least of the waters, then the first of the rows that has it."""
    least = min(waters)
    return [least] + list(rows[waters.index(least)])
