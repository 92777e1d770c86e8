"""Heaps of ice: what a heap is, what is left of it by a day, and how many of its faces are open.

A heap is a list or tuple of how many blocks each column has, straw one of 1 (it lies there) or 0.
"""

MOST_COLUMNS = 5
MOST_BLOCKS = 3


def is_heap(heap):
    """Whether these are columns that a house can have."""
    if len(heap) < 1 or len(heap) > MOST_COLUMNS:
        return False
    return max(heap) <= MOST_BLOCKS


def open_faces(heap, straw):
    """How many faces of the blocks are open: every front, and what is free of tops and sides."""
    return sum(heap) + open_tops(heap, straw) + open_sides(heap)


def open_tops(heap, straw):
    """How many columns have a topmost block without straw."""
    return len([height for height, cover in zip(heap, straw) if height > 0 and cover == 0])


def open_sides(heap):
    """How many sides have no block beside them."""
    sides = 0
    beside = 0
    for height in heap:
        # The higher of two neighbours is open by as many sides as it is higher.
        sides += abs(height - beside)
        beside = height
    return sides + beside


def columns_with_blocks(heap):
    """Of which columns a block can be taken, from the left."""
    return [column for column, height in enumerate(heap) if height > 0]


def heap_after(heap, column):
    """What is left of the heap (a tuple) when a block is taken of that column."""
    return heap[:column] + (heap[column] - 1,) + heap[column + 1:]


def rows_of(columns, most, total):
    """All rows of so many numbers from 0 to most that come to the total.

    Of two rows the one that is higher where they first differ stands ahead.
    """
    rows = [()]
    for ahead in range(columns - 1, -1, -1):
        longer = []
        for row in rows:
            lacking = total - sum(row)
            for number in range(most, -1, -1):
                # What lacks then must find room in the columns that are still ahead.
                if 0 <= lacking - number <= ahead * most:
                    longer.append(row + (number,))
        rows = longer
    return rows
