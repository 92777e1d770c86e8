"""The orders in which the blocks of a heap can be taken, and which of them are best."""

from icehouse.heaps import columns_with_blocks, heap_after, open_faces


class BestOrders:
    """The best orders of heaps (tuples) on which the same straw lies.

    What is found of a heap is kept, for the next call and since many heaps can become the same one.
    """

    def __init__(self, straw):
        self.straw = straw
        self.found = {}

    def best(self, heap):
        """The water of a best order of the heap, and how many orders are best."""
        way = self.with_day_before(heap)
        return (way[0] - open_faces(heap, self.straw), way[1])

    def with_day_before(self, heap):
        """As best, the water of the day that leaves this heap counted in."""
        if heap not in self.found:
            way = best_way(self.ways(heap))
            self.found[heap] = (way[0] + open_faces(heap, self.straw), way[1])
        return self.found[heap]

    def ways(self, heap):
        """For each column that has a block, from the left: what the heap comes to when it is taken of first."""
        return [self.with_day_before(heap_after(heap, column)) for column in columns_with_blocks(heap)]

    def first(self, heap):
        """The first of the best orders of the heap."""
        order = []
        while sum(heap) > 0:
            column = self.first_column(heap)
            order.append(column)
            heap = heap_after(heap, column)
        return order

    def first_column(self, heap):
        """The leftmost column with which a best order of the heap begins."""
        waters = [way[0] for way in self.ways(heap)]
        return columns_with_blocks(heap)[waters.index(min(waters))]


def best_way(ways):
    """The least water among ways of (water, how many orders), and how many orders have it."""
    if len(ways) == 0:
        # An empty heap has one order, of no days.
        return (0, 1)
    least = min([way[0] for way in ways])
    return (least, sum([way[1] for way in ways if way[0] == least]))
