"""The orders in which the blocks of a heap can be taken, and which of them are best."""

from icehouse.heaps import open_faces


def best_orders(heap, straw):
    """The water of a best order of the heap, and how many orders are best."""
    best = {}
    # What the heap left by a day comes to with that day's own water.
    reached = {}
    for rest in heaps_within(heap):
        best[rest] = best_way([reached[after] for after in heaps_after_a_day(rest)])
        reached[rest] = (best[rest][0] + open_faces(rest, straw), best[rest][1])
    return best[tuple(heap)]


def best_way(ways):
    """The least water among ways of (water, how many orders), and how many orders have it."""
    if len(ways) == 0:
        # An empty heap has one order, of no days.
        return (0, 1)
    least = min([way[0] for way in ways])
    return (least, sum([way[1] for way in ways if way[0] == least]))


def heaps_within(heap):
    """All that can be left of the heap, each behind all that can be left of it in turn."""
    heaps = [()]
    for height in heap:
        longer = []
        for start in heaps:
            for level in range(height + 1):
                longer.append(start + (level,))
        heaps = longer
    return heaps


def heaps_after_a_day(heap):
    """What one block taken can leave of the heap (a tuple), from the leftmost column on."""
    heaps = []
    for column, height in enumerate(heap):
        if height > 0:
            heaps.append(heap[:column] + (height - 1,) + heap[column + 1:])
    return heaps
